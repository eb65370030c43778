import PyProof.Rows.All
import Wide.All
import OpenK.AllK
import Wide.FinOn
import HandS.Base
import HandS.Call
import HandS.List
import HandS.Comp
import HandS.Ends
import HandS.Dict
import HandS.Iter
import HandS.EndBits
import HandS.Words
import HandS.WordsList
import HandS.WordsDict
import HandS.Text
import HandS.Wide
import HandS.WideBits
import HandS.Conv
import HandS.TupLe
import HandS.IsInst
import HandS.ExcIs
import HandS.ExcValue
import HandS.TupSets
import HandS.Zip
import HandS.Walk
import HandS.TupAny
import HandS.Deep
import PyProof.ReprRoads
import PyProof.ReprBulk
import KE.GoesZip
import KE.GoesMore
import KE.GoesEnum
import HandS.DictTup
import KE.KSortTupG
import HandS.TupLen
import HandS.NoneIn
import HandS.Records
import HandS.Flow
import HandS.More
import KE.KDictWalk
import KE.KDictDisplayH
import PyProof.WalkInts
import PyProof.DictTable
import KE.KeyNested
import KE.KDictKeyed
import PyProof.DictMoreH
import HandS.ListItems
import KE.KTurns
import HandS.Star
import PyProof.StrOps2
import HandS.TryOnly
import HandS.WordsExc
import HandS.Style
import HandS.RaiseMore
import HandS.FStr
import HandS.ExcOwn
import HandS.ExcCtx
import HandS.SetFor
import PySem.Challenge.RW_anywide_k46_whole_machines_of_long_rows
set_option Elab.async false
set_option linter.all false
set_option maxRecDepth 100000
namespace AW
open PySem PySem.Spec PyProof.Rows L2

/-! ### a def's call at one around -/
theorem fn_at {P : Program} {w : World} {K : PySem.W.Frag} {mg : Str → Option Value} {base : Heap} {k : Nat} {f : Addr} {x qual : Str} {st : Stmt} {fd : FuncData} {N ps : List Str}
    (F : Fun K x qual st f fd) (S : FnScope N ps (defScope st)) {A : Around} {outer : List Env} {s : Shared} {H : Hp} {args : Args} {us : List Value} {vs : List V} {Q : VK} {E : XK}
    (hr : Room (k + 1) A) (e0 : Env0 P w K mg base A outer s H) (hb : BindsTo s fd args (ps.zip us)) (r : Vals vs us) (hl : vs.length = ps.length)
    (hbody : ∀ cdv : Value, ∃ t, PSs (cxOf CX0 P w K mg base N qual (defScope st) f cdv A outer s H E).nox (defBody st) t ∧ t { nx := fun _ H' => Q .non H', rt := Q } (start N vs) H) :
    codeAny (model P w) A (.call (.ref f) args) (CR CX0 outer P w H s Q E) s := by
  obtain ⟨oc, od, kV, doc, pm, an, cdv, ct, osl, rfl, lk, hcd⟩ := F.ex
  have keep0 : ∀ b o, base.get? b = some o → s.heap.get? b = some o := fun b o e => (e0.bs b o e).1
  have KX := e0.mod.kin.keeps keep0
  refine codeAny_call_function (Room.depth hr) (KX _ _ lk) rfl S.co S.gen rfl (PySem.W.codeRec_of KX hcd) (hb _ _ _ _ ?_)
  have kinds : ∀ y ∈ ps.zip us, (defScope st).names.lookup y.1 = some .local ∨ ((defScope st).names.lookup y.1 = some .cell ∧ ((cellsFrom (s.heap.objs.size + 1) (defScope st).names []).lookup y.1).isSome = true) := by
    intro y hy
    obtain ⟨n, v⟩ := y
    exact (S.par n (List.of_mem_zip hy).1).elim Or.inl fun q => Or.inr ⟨q, PySem.W.cellsFrom_some _ _ _ (.inl q)⟩
  refine wpAny_newFunctionEnv_cells S.kind kinds ?_
  rintro env rfl s1 ic
  obtain ⟨t, ht, hq⟩ := hbody cdv
  refine ⟨(e0.mod.nolimit.keeps keep0).keeps ic.toInCall.keep, codeAny_func (wpAny_mono (ht.nox.run [] s1 (start N vs) H _ (inv_start S hr.hd e0 hl r ic) hq) ?_ (fun _ _ z => z))⟩
  intro fl s' hs
  cases fl with
  | ret u =>
    obtain ⟨v, σ', H', J, rv, q⟩ := hs
    exact ⟨v, H', J.os, J.bare, J.base, J.hok, rv, q⟩
  | next =>
    obtain ⟨σ', H', J, q⟩ := hs
    exact ⟨V.non, H', J.os, J.bare, J.base, J.hok, rfl, q⟩
  | brk => exact hs.elim fun _ z => z.elim fun _ z => z.2.elim
  | cont => exact hs.elim fun _ z => z.elim fun _ z => z.2.elim

/-! ### the law's own call -/
theorem env_at {P : Program} {w : World} {K : PySem.W.Frag} {mg mb : Str → Option Value} {a : Addr} {s1 : Shared} {vs : List Value} {H : Hp}
    (KX : K.In s1.heap) (hns : s1.heap.Ns mainGlobals mg) (hb : s1.heap.Ns builtinsNs mb) (hbb : ∀ x : Str, x ≠ "__name__" → mb x = bootBuiltins x) (hlim : s1.heap.NoLimit) (hg : s1.gens = #[])
    (ha : s1.heap.get? a = some { cls := .type "list", data := .seq vs.toArray }) (one : ∀ b u, H b = some u → b = a) (out : ∀ o, K.lookup a = some o → H a = none) (ok : HOk P w H s1.heap) :
    Env0 P w K mg (hidT s1.heap H) callerA [] s1 H := by
  have dicts : ∀ {b : Addr} {m : Str → Option Value}, s1.heap.Ns b m → (hidT s1.heap H).Ns b m := by
    rintro b m ⟨o, es, ep, e, d, r⟩
    refine ⟨o, es, ep, hidT_get e ?_, d, r⟩
    match q : H b with
    | none => rfl
    | some u =>
      obtain rfl := one b u q
      have e2 := Option.some.inj (e.symm.trans ha)
      rw [e2] at d
      cases d
  have kin : K.In (hidT s1.heap H) := by
    intro b o e
    refine hidT_get (KX b o e) ?_
    match q : H b with
    | none => rfl
    | some u =>
      obtain rfl := one b u q
      exact q.symm.trans (out o e)
  obtain ⟨mc, l1, l2⟩ := hlim
  exact ⟨rfl, ⟨kin, dicts hns, ⟨mb, dicts hb, hbb⟩, ⟨mc, dicts l1, l2⟩⟩, fun b o e => of_hidT e, Nat.le_of_eq (hidT_size _ _), trivial, (fun b z => nomatch z), ok, .of_eq hg⟩

theorem law_end {P : Program} {w : World} {K : PySem.W.Frag} {mg mb : Str → Option Value} {fa a : Addr} {s1 : Shared} {vs : List Value} {ns : List Int}
    (KX : K.In s1.heap) (hns : s1.heap.Ns mainGlobals mg) (hb : s1.heap.Ns builtinsNs mb) (hbb : ∀ x : Str, x ≠ "__name__" → mb x = bootBuiltins x) (hlim : s1.heap.NoLimit) (hg : s1.gens = #[])
    (ha : s1.heap.get? a = some { cls := .type "list", data := .seq vs.toArray }) (hi : IntsAre vs ns) (hl : ns.length ≤ sizeLine)
    (run : ∀ (base : Heap) (H : Hp), Env0 P w K mg base callerA [] s1 H → SqL K H a (ns.map V.int) →
      codeAny (model P w) callerA (.call (.ref fa) ⟨[.ref a], []⟩) (CR CX0 [] P w H s1 (fun v _ => v = .bl true) E0) s1) :
    codeAny (model P w) callerA (.call (.ref fa) ⟨[.ref a], []⟩) (fun r s' => r = .ok (.ret (.bool true)) ∧ OldK s1.heap s'.heap ∧ s'.os = s1.os ∧ AllBare s'.gens) s1 := by
  have rv := vals_ints hi
  have fin : ∀ H : Hp, HOk P w H s1.heap → (∀ b u, H b = some u → ∃ o xs, u = .frz o (.lst xs)) → ∀ r s', CR CX0 [] P w H s1 (fun v _ => v = .bl true) E0 r s' →
      r = .ok (.ret (.bool true)) ∧ OldK s1.heap s'.heap ∧ s'.os = s1.os ∧ AllBare s'.gens := by
    intro H ok hf r s' h
    match r, h with
    | .ok (.ret u), ⟨v, H', os, bare, un, ok2, rel, q⟩ =>
      obtain rfl : v = .bl true := q
      obtain rfl : u = Value.bool true := rel
      refine ⟨rfl, OldK.of_keep ?_, os, bare⟩
      intro b o e
      match qb : H b with
      | none => exact un.keep b o e qb (fun z => nomatch z) (fun z => nomatch z)
      | some ho =>
        obtain ⟨o2, xs, rfl⟩ := hf b ho qb
        have k1 := (ok b _ qb).1
        have k2 := (ok2 b _ (un.frzs b o2 _ qb)).1
        rw [e] at k1
        cases k1
        exact k2
  match hk : K.lookup a with
  | some o =>
    have e := (KX a o hk).symm.trans ha
    obtain rfl := Option.some.inj e
    have ok : HOk P w (fun _ => none) s1.heap := fun b u z => nomatch z
    refine codeAny_mono (run _ (fun _ => none) (env_at KX hns hb hbb hlim hg ha (fun b u z => nomatch z) (fun _ _ => rfl) ok) ?_) (fin _ ok fun b u z => nomatch z)
    exact .inr ⟨_, vs.toArray, _, hk, rfl, rfl, rfl, by rw [List.size_toArray, hi.length]; exact hl, by simpa using rv⟩
  | none =>
    let o : Obj := { cls := .type "list", data := .seq vs.toArray }
    have at_ : ∀ b u, (if b = a then some (HO.frz o (.lst (ns.map V.int))) else none) = some u → b = a ∧ u = HO.frz o (.lst (ns.map V.int)) := by
      intro b u z
      by_cases hb : b = a
      · rw [if_pos hb] at z
        exact ⟨hb, (Option.some.inj z).symm⟩
      · rw [if_neg hb] at z
        cases z
    have ok : HOk P w (fun b => if b = a then some (HO.frz o (.lst (ns.map V.int))) else none) s1.heap := by
      intro b u z
      obtain ⟨rfl, rfl⟩ := at_ b u z
      exact ⟨ha, by rw [List.length_map]; exact hl, vs, _, rv, ha⟩
    refine codeAny_mono (run _ _ (env_at KX hns hb hbb hlim hg ha (fun b u z => (at_ b u z).1) (fun o' e => absurd (hk.symm.trans e) (fun z => nomatch z)) ok) ?_) (fin _ ok fun b u z => ⟨_, _, (at_ b u z).2⟩)
    exact .inl (.inr ⟨o, if_pos rfl⟩)

theorem walkG {l : PySem.W.OpenLaw} {n : Nat} {q : Program} {loose : List Str} {XP : (Str → Option Value) → Heap → Prop} {YP : World → Heap → Prop} {d : DefRec} {K : Params → PySem.W.Frag}
    (hn : l.most = some n) (hn2 : n ≤ sizeLine) (hdf : d.params.defaults = []) (hY : ∀ (w : World) (h : Heap), YP w h → (K w.params).In h)
    (F : ∀ (w : World) (mg : Str → Option Value) (fa : Addr) (h : Heap), (K w.params).In h → h.Ns mainGlobals mg → mg d.name = some (.ref fa) →
      ∀ (s : Shared) (a : Addr) (ns : List Int) (base : Heap) (H : Hp), ns.length ≤ n → (∀ z ∈ ns, Builtin.Int.intBits z ≤ 1048576) → Env0 l.prog w (K w.params) mg base callerA [] s H → SqL (K w.params) H a (ns.map V.int) →
        codeAny (model l.prog w) callerA (.call (.ref fa) ⟨[.ref a], []⟩) (CR CX0 [] l.prog w H s (fun v _ => v = .bl true) E0) s) :
    PySem.W.WalkO q loose XP YP l.row.toRowW d [] (fun f vs => PySem.call f vs) := by
  apply Att.attach_callB hn hdf
  intro w s0 s1 mg mb fa o pm cd doc a vs ns G Y ho hd hcd hmg hobj hints hlen hbits hg
  have KX := hY w _ Y
  exact law_end KX G.T.g G.T.b G.T.builtins G.T.nolimit hg hobj hints (Nat.le_trans hlen hn2) fun base H e0 hS => F w mg fa _ KX G.T.g hmg s1 a ns base H hlen hbits e0 hS

/-! ### repr of data -/
section
variable {X : Cx}
/-- what a value reads, whatever the state -/
def Rz (X : Cx) (H : Hp) (v : V) (d : PyData) : Prop := ∀ pins σ s u, Inv X pins σ H s → RelV v u → ∃ as, Reads s.heap u d as ∧ sysModules ∉ as
def rRepr (X : Cx) : List V → Hp → VK → Prop := fun xs H Q => ∃ (x : V) (d : PyData), xs = [x] ∧ (Rz X H x d ∨ (Dp X.K H x d ∧ d.hasDict = false)) ∧ d.showable = true ∧ d.depth ≤ 40 ∧ d.shown.length ≤ sizeLine ∧ Q (.str d.shown) H
theorem call_repr (hg : X.A.guards = some []) (hu : X.A.units + 64 < cLine) : CallR X (.builtin "repr") (rRepr X) := by
  intro pins s σ H xs us Q I r h
  obtain ⟨x, d, rfl, hd, hs, hp, hz, q⟩ := h
  match us, r with
  | [u], .cons rx .nil =>
    have rd : ∃ as, Reads s.heap u d as ∧ (d.hasDict = true → sysModules ∉ as) := by
      rcases hd with hd | ⟨hd, hn⟩
      · obtain ⟨as, h1, h2⟩ := hd pins σ s u I rx
        exact ⟨as, h1, fun _ => h2⟩
      · obtain ⟨as, h1⟩ := Dp.reads I d x u hd rx
        exact ⟨as, h1, fun z => by rw [hn] at z; cases z⟩
    obtain ⟨as, h1, h2⟩ := rd
    cases h1 with
    | none => exact PySem.P.repr_of_none ⟨.str _, H, I.tok _, ⟨_, rfl⟩, q⟩
    | bool b => exact PySem.P.repr_of_bool ⟨.str _, H, I.tok _, ⟨_, rfl⟩, by have q' := q; simp only [PyData.shown] at q'; cases b <;> exact q'⟩
    | int i t => exact PySem.P.repr_of_int (by simpa [PyData.showable] using hs) ⟨.str _, H, I.tok _, ⟨_, rfl⟩, by simpa only [PyData.shown] using q⟩
    | str x t => exact PySem.P.repr_of_str ⟨.str _, H, I.tok _, ⟨_, rfl⟩, by simpa only [PyData.shown] using q⟩ (by simpa only [PyData.shown] using hz)
    | list a b c e => exact repr_of_reads' (Reads.list a b c e) hs h2 hg (by omega) (fun _ _ e => e) (fun h' u tk k => ⟨.str _, H, I.kept k, ⟨_, rfl⟩, q⟩) hz
    | tuple a b c e => exact repr_of_reads' (Reads.tuple a b c e) hs h2 hg (by omega) (fun _ _ e => e) (fun h' u tk k => ⟨.str _, H, I.kept k, ⟨_, rfl⟩, q⟩) hz
    | dict a b c e f => exact repr_of_reads' (Reads.dict a b c e f) hs h2 hg (by omega) (fun _ _ e => e) (fun h' u tk k => ⟨.str _, H, I.kept k, ⟨_, rfl⟩, q⟩) hz

theorem Rz.int (H : Hp) (i : Int) : Rz X H (.int i) (.int i) := by
  rintro pins σ s u I ⟨t, rfl⟩
  exact ⟨_, Reads.int i t, (fun z => nomatch z)⟩
theorem Rz.str (H : Hp) (x : Str) : Rz X H (.str x) (.str x) := by
  rintro pins σ s u I ⟨t, rfl⟩
  exact ⟨_, Reads.str x t, (fun z => nomatch z)⟩
theorem rz_all {H : Hp} : ∀ {vs : List V} {ds : List PyData}, Paired (Rz X H) vs ds → ∀ {pins σ s us}, Inv X pins σ H s → Vals vs us → ∃ as, ReadsAll s.heap us ds as ∧ sysModules ∉ as
  | _, _, .nil, _, _, _, _, _, .nil => ⟨_, ReadsAll.nil, (fun z => nomatch z)⟩
  | _, _, .cons h t, _, _, _, _, I, .cons r rs => by
    obtain ⟨as, a1, a2⟩ := h _ _ _ _ I r
    obtain ⟨bs, b1, b2⟩ := rz_all t I rs
    exact ⟨_, ReadsAll.cons a1 b1, fun z => (List.mem_append.mp z).elim a2 b2⟩
theorem Rz.tup {H : Hp} {a : Addr} {xs : List V} {ds : List PyData} (h : SqT X.K H a xs) (hs : Paired (Rz X H) xs ds) : Rz X H (.ref a) (.tuple ds) := by
  intro pins σ s u I r
  obtain rfl : u = Value.ref a := r
  obtain ⟨its, rv, ⟨o, ho, hc, n, hd⟩, _⟩ := I.tuple h
  obtain ⟨as, h1, h2⟩ := rz_all hs I rv
  exact ⟨_, Reads.tuple ho hc hd h1, h2⟩
end
end AW
namespace AW
open PySem PySem.Spec PyProof.Rows L2
section
variable {X : Cx}
def CPowW (i j : Int) : Prop := 0 ≤ j ∧ (Builtin.Int.intBits i : Int) * j ≤ 2 ^ 27
theorem op_powW : OpR X (binaryOp .Pow) (rI CPowW fun i j => .int (i ^ j.toNat)) := opI fun _ _ _ _ _ _ _ hc q => pow_int hc.1 hc.2 q
end
theorem bits_lt {z : Int} {n : Nat} (h : Builtin.Int.intBits z ≤ n) : z.natAbs < 2 ^ n := by
  unfold Builtin.Int.intBits at h
  by_cases e : z = 0
  · subst e
    exact Nat.pos_of_ne_zero (by simp)
  · rw [if_neg (by simpa using e)] at h
    have : z.natAbs ≠ 0 := by omega
    exact (Nat.log2_lt this).mp (by omega)
theorem seed_ok {z c : Int} (h0 : 0 ≤ z) (h1 : z ≤ 2147483629) (h2 : Builtin.Int.intBits c ≤ 1048576) : CPowW (z * 50021 + c) 3 := by
  refine ⟨by decide, ?_⟩
  have hc := bits_lt h2
  have h3 : (z * 50021 + c).natAbs < 2 ^ 1048577 := by
    have a : (z * 50021 + c).natAbs ≤ (z * 50021).natAbs + c.natAbs := Int.natAbs_add_le _ _
    have b : (z * 50021).natAbs ≤ 2 ^ 48 := by omega
    have d : (2 : Nat) ^ 48 ≤ 2 ^ 1048576 := Nat.pow_le_pow_right (by decide) (by decide)
    have e : (2 : Nat) ^ 1048577 = 2 ^ 1048576 + 2 ^ 1048576 := by rw [Nat.pow_succ]; omega
    omega
  have h4 := PyProof.Rows.intBits_le h3
  have e : (2 : Int) ^ 27 = 134217728 := by decide
  rw [e]
  omega
/-! ### what follows an if, shown once -/
def tMid (t u : TS) : TS := fun D σ H => ∃ M : L2.St → Hp → Prop, t { D with nx := M } σ H ∧ ∀ σ2 H2, M σ2 H2 → u D σ2 H2
theorem pss_mid {X : Cx} {st : Stmt} {r : List Stmt} {t u : TS} (a : PS X st t) (b : PSs X r u) : PSs X (st :: r) (tMid t u) := by
  constructor
  rintro pins s σ H D I ⟨M, h1, h2⟩
  apply wpAny_execs_cons
  refine thn (a.run pins s σ H _ I h1) ?_
  intro fl s2 z
  match fl, z with
  | .next, ⟨σ2, H2, I2, m⟩ => exact b.run pins s2 σ2 H2 D I2 (h2 σ2 H2 m)
  | .ret _, z => exact z
  | .brk, z => exact z
  | .cont, z => exact z
/-! ### the well -/
def WL (H : Hp) (a c : Addr) : Prop := a ≠ c ∧ ∃ (cs : List Int) (r s : Int), H a = some (.lst [.ref c, .int r, .int s]) ∧ H c = some (.lst (cs.map V.int))
/-- all but the well stands as it stood -/
def Kp (a c : Addr) (H H' : Hp) : Prop := ∀ b o, b ≠ a → b ≠ c → H b = some o → H' b = some o
theorem Kp.refl (a c : Addr) (H : Hp) : Kp a c H H := fun _ _ _ _ h => h
theorem Kp.trans {a c : Addr} {H H1 H2 : Hp} (h : Kp a c H H1) (k : Kp a c H1 H2) : Kp a c H H2 := fun b o n1 n2 e => k b o n1 n2 (h b o n1 n2 e)
theorem Kp.tup {a c : Addr} {H H' : Hp} (w : WL H a c) (k : Kp a c H H') {b : Addr} {xs : List V} (h : H b = some (.tup xs)) : H' b = some (.tup xs) := by
  obtain ⟨_, cs, r, s, e1, e2⟩ := w
  exact k b _ (ne_of h e1 (fun z => nomatch z)) (ne_of h e2 (fun z => nomatch z)) h
theorem Kp.same {a c : Addr} {H H1 H2 : Hp} (ha : H a = none) (hc : H c = none) (s : Same H H1) (k : Kp a c H1 H2) : Same H H2 := fun b o e => k b o (ne_of_none e ha) (ne_of_none e hc) (s b o e)
theorem same_new {H : Hp} {p : Addr} {o : HO} (h : H p = none) : Same H (upd H p o) := fun b x e => by
  rw [upd_ne (ne_of_none e h)]
  exact e
theorem WL.same {H H' : Hp} {a c : Addr} (w : WL H a c) (k : Same H H') : WL H' a c := by
  obtain ⟨n, cs, r, s, e1, e2⟩ := w
  exact ⟨n, cs, r, s, k _ _ e1, k _ _ e2⟩
theorem WL.ne_new {H : Hp} {a c p : Addr} (w : WL H a c) (h : H p = none) : p ≠ a ∧ p ≠ c := by
  obtain ⟨n, cs, r, s, e1, e2⟩ := w
  exact ⟨(ne_of_none e1 h).symm, (ne_of_none e2 h).symm⟩
theorem WL.upd {H : Hp} {a c p : Addr} {o : HO} (w : WL H a c) (h1 : p ≠ a) (h2 : p ≠ c) : WL (upd H p o) a c := by
  obtain ⟨n, cs, r, s, e1, e2⟩ := w
  exact ⟨n, cs, r, s, by rw [upd_ne h1.symm]; exact e1, by rw [upd_ne h2.symm]; exact e2⟩
theorem Same.kp {a c : Addr} {H H' : Hp} (s : Same H H') : Kp a c H H' := fun b o _ _ e => s b o e
theorem dp_ints {K : PySem.W.Frag} {H : Hp} : ∀ cs : List Int, DpAll K H (cs.map V.int) (cs.map PyData.int)
  | [] => .nil
  | c :: cs => .cons (.int c) (dp_ints cs)
theorem lay_ints : ∀ cs : List Int, PyData.canLayAll0 (cs.map PyData.int) = true ∧ PyData.depthAll (cs.map PyData.int) = 0
  | [] => ⟨by simp only [List.map_nil, PyData.canLayAll0], by simp only [List.map_nil, PyData.depthAll]⟩
  | c :: cs => by
    obtain ⟨h1, h2⟩ := lay_ints cs
    exact ⟨by simp only [List.map_cons, PyData.canLayAll0, PyData.canLay0, h1, Bool.and_self], by simp only [List.map_cons, PyData.depthAll, PyData.depth, h2, Nat.max_self]⟩
theorem shaped_ints (cs : List Int) : SeqAt.shaped (.list (cs.map PyData.int)) = true := by
  obtain ⟨h1, h2⟩ := lay_ints cs
  simp only [SeqAt.shaped, PyData.canLay0, PyData.depth, h1, h2, Bool.true_and]
  decide
theorem dp_strs {K : PySem.W.Frag} {H : Hp} : ∀ cs : List Str, DpAll K H (cs.map V.str) (cs.map PyData.str)
  | [] => .nil
  | c :: cs => .cons (.str c) (dp_strs cs)
theorem lay_strs : ∀ cs : List Str, (∀ x ∈ cs, PyData.strOk x = true) → PyData.canLayAll0 (cs.map PyData.str) = true ∧ PyData.depthAll (cs.map PyData.str) = 0
  | [], _ => ⟨by simp only [List.map_nil, PyData.canLayAll0], by simp only [List.map_nil, PyData.depthAll]⟩
  | c :: cs, h => by
    obtain ⟨h1, h2⟩ := lay_strs cs fun x hx => h x (List.mem_cons_of_mem _ hx)
    exact ⟨by simp only [List.map_cons, PyData.canLayAll0, PyData.canLay0, h1, h c List.mem_cons_self, Bool.and_self], by simp only [List.map_cons, PyData.depthAll, PyData.depth, h2, Nat.max_self]⟩
theorem shaped_strs (cs : List Str) (h : ∀ x ∈ cs, PyData.strOk x = true) : SeqAt.shaped (.list (cs.map PyData.str)) = true := by
  obtain ⟨h1, h2⟩ := lay_strs cs h
  simp only [SeqAt.shaped, PyData.canLay0, PyData.depth, h1, h2, Bool.true_and]
  decide
theorem seq0 (n : Nat) : seqIndex? 0 (n + 1) = some 0 := by
  unfold seqIndex?
  simp
/-! ### the words of deeds, deeds, rows -/
def fwL : List (Str × Int) := [("none", 0), ("one", 0), ("all", 0), ("not", 1), ("neg", 1), ("twice", 1), ("and", 2), ("or", 2), ("xor", 2), ("add", 2), ("sub", 2)]
theorem fw_ok : ∀ x ∈ fwL.map (·.1), PyData.strOk x = true := by decide +kernel
def fwK : List (Key × V) := fwL.map fun p => (Sum.inr p.1, .int p.2)
/-- a deed: its word and its numbers -/
abbrev Deed := Str × List Int
def dV (d : Deed) : List V := .str d.1 :: d.2.map V.int
theorem dv0 (d : Deed) : atI (dV d) 0 = some (.str d.1) := atI_nat (j := 0) rfl
theorem dvN {d : Deed} {k : Nat} {i : Int} (h : d.2[k]? = some i) : atI (dV d) ((k + 1 : Nat) : Int) = some (.int i) := atI_nat (by show (d.2.map V.int)[k]? = _; rw [List.getElem?_map, h]; rfl)
structure DeedOk (m : Int) (d : Deed) : Prop where
  word : (d.1, (d.2.length : Int)) ∈ fwL
  ahead : ∀ i ∈ d.2, 0 ≤ i ∧ i < m
theorem fw_at {z : Int} (h0 : 0 ≤ z) (h1 : z < 11) : ∃ x n, (x, n) ∈ fwL ∧ 0 ≤ n ∧ n ≤ 2 ∧ atI (fwK.map fun kv => kV kv.1) z = some (.str x) ∧ valV fwK (Sum.inr x) = some (.int n) := by
  obtain ⟨k, rfl⟩ := Int.eq_ofNat_of_zero_le h0
  have hk : k = 0 ∨ k = 1 ∨ k = 2 ∨ k = 3 ∨ k = 4 ∨ k = 5 ∨ k = 6 ∨ k = 7 ∨ k = 8 ∨ k = 9 ∨ k = 10 := by omega
  rcases hk with rfl | rfl | rfl | rfl | rfl | rfl | rfl | rfl | rfl | rfl | rfl
  · exact ⟨"none", 0, by decide +kernel, by decide, by decide, by decide +kernel, by decide +kernel⟩
  · exact ⟨"one", 0, by decide +kernel, by decide, by decide, by decide +kernel, by decide +kernel⟩
  · exact ⟨"all", 0, by decide +kernel, by decide, by decide, by decide +kernel, by decide +kernel⟩
  · exact ⟨"not", 1, by decide +kernel, by decide, by decide, by decide +kernel, by decide +kernel⟩
  · exact ⟨"neg", 1, by decide +kernel, by decide, by decide, by decide +kernel, by decide +kernel⟩
  · exact ⟨"twice", 1, by decide +kernel, by decide, by decide, by decide +kernel, by decide +kernel⟩
  · exact ⟨"and", 2, by decide +kernel, by decide, by decide, by decide +kernel, by decide +kernel⟩
  · exact ⟨"or", 2, by decide +kernel, by decide, by decide, by decide +kernel, by decide +kernel⟩
  · exact ⟨"xor", 2, by decide +kernel, by decide, by decide, by decide +kernel, by decide +kernel⟩
  · exact ⟨"add", 2, by decide +kernel, by decide, by decide, by decide +kernel, by decide +kernel⟩
  · exact ⟨"sub", 2, by decide +kernel, by decide, by decide, by decide +kernel, by decide +kernel⟩
theorem awSnoc {α β : Type} {F : α → β → Prop} {x : α} {y : β} (h : F x y) : ∀ {l : List α} {l2 : List β}, Paired F l l2 → Paired F (l ++ [x]) (l2 ++ [y])
  | _, _, .nil => .cons h .nil
  | _, _, .cons r t => .cons r (awSnoc h t)
theorem awMap {α β : Type} {F G : α → β → Prop} (f : ∀ a b, F a b → G a b) : ∀ {l : List α} {l2 : List β}, Paired F l l2 → Paired G l l2
  | _, _, .nil => .nil
  | _, _, .cons r t => .cons (f _ _ r) (awMap f t)
theorem awLen {α β : Type} {F : α → β → Prop} : ∀ {l : List α} {l2 : List β}, Paired F l l2 → l.length = l2.length
  | _, _, .nil => rfl
  | _, _, .cons _ t => congrArg (· + 1) (awLen t)
theorem awGet {α β : Type} {F : α → β → Prop} : ∀ {l : List α} {l2 : List β} {i : Nat} {x : α}, Paired F l l2 → l[i]? = some x → ∃ y, l2[i]? = some y ∧ F x y
  | _, _, _, _, .nil, e => by simp at e
  | _, _, 0, _, .cons r _, e => by
    simp only [List.getElem?_cons_zero, Option.some.injEq] at e
    subst e
    exact ⟨_, rfl, r⟩
  | _, _, i + 1, x, .cons _ t, e => by
    simp only [List.getElem?_cons_succ] at e ⊢
    exact awGet t e
theorem awGet2 {α β : Type} {F : α → β → Prop} {l : List α} {l2 : List β} {i : Nat} {y : β} (h : Paired F l l2) (e : l2[i]? = some y) : ∃ x, l[i]? = some x ∧ F x y := by
  have hi : i < l.length := by
    rw [awLen h]
    exact (List.getElem?_eq_some_iff.mp e).1
  obtain ⟨y2, e2, f⟩ := awGet h (List.getElem?_eq_getElem hi)
  rw [e] at e2
  obtain rfl := Option.some.inj e2
  exact ⟨_, List.getElem?_eq_getElem hi, f⟩
/-- deeds that stand in the heap as tuples -/
abbrev DsAt (H : Hp) : List Addr → List Deed → Prop := Paired fun r d => H r = some (.tup (dV d))
def RowAt (H : Hp) (R : Addr) (m : Int) (ds : List Deed) (o : Int) : Prop := ∃ D rs, H R = some (.tup [.int m, .ref D, .int o]) ∧ H D = some (.tup (rs.map V.ref)) ∧ DsAt H rs ds
structure DsOk (m : Int) (ds : List Deed) : Prop where
  each : ∀ (k : Nat) d, ds[k]? = some d → DeedOk (m + k) d
structure RowOk (m : Int) (ds : List Deed) (o : Int) : Prop where
  m1 : 1 ≤ m
  m3 : m ≤ 3
  len : ds.length ≤ 8
  deeds : DsOk m ds
  o0 : 0 ≤ o
  o1 : o < m + ds.length
/-- all tuples stand -/
def TupsStay (H H' : Hp) : Prop := ∀ b xs, H b = some (.tup xs) → H' b = some (.tup xs)
theorem Same.tups {H H' : Hp} (s : Same H H') : TupsStay H H' := fun b xs e => s b _ e
theorem Kp.tups {a c : Addr} {H H' : Hp} (k : Kp a c H H') (w : WL H a c) : TupsStay H H' := fun b xs e => k.tup w e
theorem TupsStay.trans {H H1 H2 : Hp} (a : TupsStay H H1) (b : TupsStay H1 H2) : TupsStay H H2 := fun c xs e => b c xs (a c xs e)
theorem tups_put {H : Hp} {l : Addr} {xs : List V} {o : HO} (h : H l = some (.lst xs)) : TupsStay H (upd H l o) := fun b ys e => by
  rw [upd_ne (ne_of e h (fun z => nomatch z))]
  exact e
theorem TupsStay.ds {H H' : Hp} (t : TupsStay H H') {rs : List Addr} {ds : List Deed} (h : DsAt H rs ds) : DsAt H' rs ds := awMap (fun r d e => t r _ e) h
theorem TupsStay.row {H H' : Hp} (t : TupsStay H H') {R : Addr} {m o : Int} {ds : List Deed} (h : RowAt H R m ds o) : RowAt H' R m ds o := by
  obtain ⟨D, rs, e1, e2, e3⟩ := h
  exact ⟨D, rs, t _ _ e1, t _ _ e2, t.ds e3⟩
theorem dsOk_snoc {m : Int} {ds : List Deed} {d : Deed} (h : DsOk m ds) (k : DeedOk (m + ds.length) d) : DsOk m (ds ++ [d]) := by
  constructor
  intro i d' e
  by_cases hi : i < ds.length
  · rw [List.getElem?_append_left hi] at e
    exact h.each i d' e
  · rw [List.getElem?_append_right (by omega)] at e
    obtain ⟨h1, h2⟩ := List.getElem?_eq_some_iff.mp e
    have h3 : i = ds.length := by simp only [List.length_cons, List.length_nil] at h1; omega
    subst h3
    simp at h2
    subst h2
    exact k
/-! ### data that is shown in few signs -/
structure Nice (b k : Nat) (d : PyData) : Prop where
  sh : d.showable = true
  lv : d.leavesShort 21 = true
  bk : d.bulk ≤ b
  dp : d.depth ≤ k
theorem Nice.fits {b k : Nat} {d : PyData} (h : Nice b k d) (hb : b ≤ 100000) : d.shown.length ≤ sizeLine := by
  have h1 := PyData.shown_le_bulk 21 (by decide) d h.lv
  have h2 := h.bk
  rw [sizeLine_eq]
  omega
theorem Nice.mono {b b2 k k2 : Nat} {d : PyData} (h : Nice b k d) (hb : b ≤ b2) (hk : k ≤ k2) : Nice b2 k2 d := ⟨h.sh, h.lv, Nat.le_trans h.bk hb, Nat.le_trans h.dp hk⟩
theorem nice_int {i : Int} (h : i.natAbs < 10 ^ 20) : Nice 0 0 (.int i) := by
  refine ⟨?_, ?_, ?_, ?_⟩
  · simp only [PyData.showable, decide_eq_true_eq]
    have : i.natAbs < 2 ^ 70 := Nat.lt_trans h (by decide)
    by_cases e : i.natAbs = 0
    · rw [e]; decide
    · have := (Nat.log2_lt e).mpr this
      omega
  · simp only [PyData.leavesShort, decide_eq_true_eq]
    have e := int_text_length_le10 (k := 20) (by decide) h
    simp only [PyData.shown]
    rw [PySem.ofString_length]
    exact e
  · simp only [PyData.bulk, Nat.le_refl]
  · simp only [PyData.depth, Nat.le_refl]
theorem nice_str {x : Str} {n : Nat} (h : x.cps.size ≤ n) (hx : (x.cps.toList.all fun c => decide (c < 16 ^ 8)) = true) : Nice n 0 (.str x) := by
  refine ⟨?_, ?_, ?_, ?_⟩
  · simp only [PyData.showable]
  · simp only [PyData.leavesShort]
    exact hx
  · simp only [PyData.bulk]
    exact h
  · simp only [PyData.depth, Nat.le_refl]
theorem nice_all {b k : Nat} : ∀ {xs : List PyData}, (∀ x ∈ xs, Nice b k x) → PyData.showableAll xs = true ∧ PyData.leavesShortAll 21 xs = true ∧ PyData.bulkAll xs ≤ xs.length * (b + 1) ∧ PyData.depthAll xs ≤ k
  | [], _ => ⟨by simp only [PyData.showableAll], by simp only [PyData.leavesShortAll], by simp only [PyData.bulkAll, Nat.zero_le], by simp only [PyData.depthAll, Nat.zero_le]⟩
  | x :: xs, h => by
    obtain ⟨h1, h2, h3, h4⟩ := nice_all fun y hy => h y (List.mem_cons_of_mem _ hy)
    obtain ⟨g1, g2, g3, g4⟩ := h x List.mem_cons_self
    refine ⟨by simp only [PyData.showableAll, g1, h1, Bool.and_self], by simp only [PyData.leavesShortAll, g2, h2, Bool.and_self], ?_, ?_⟩
    · simp only [PyData.bulkAll, List.length_cons, Nat.add_mul, Nat.one_mul]
      omega
    · simp only [PyData.depthAll]
      omega
theorem nice_tup {b k n : Nat} {xs : List PyData} (h : ∀ x ∈ xs, Nice b k x) (hn : xs.length * (b + 1) ≤ n) : Nice n (k + 1) (.tuple xs) := by
  obtain ⟨h1, h2, h3, h4⟩ := nice_all h
  exact ⟨by simpa only [PyData.showable] using h1, by simpa only [PyData.leavesShort] using h2, by simp only [PyData.bulk]; omega, by simp only [PyData.depth]; omega⟩
theorem nice_lst {b k n : Nat} {xs : List PyData} (h : ∀ x ∈ xs, Nice b k x) (hn : xs.length * (b + 1) ≤ n) : Nice n (k + 1) (.list xs) := by
  obtain ⟨h1, h2, h3, h4⟩ := nice_all h
  exact ⟨by simpa only [PyData.showable] using h1, by simpa only [PyData.leavesShort] using h2, by simp only [PyData.bulk]; omega, by simp only [PyData.depth]; omega⟩
def deedD (d : Deed) : PyData := .tuple (.str d.1 :: d.2.map PyData.int)
def rowD (m : Int) (ds : List Deed) (o : Int) : PyData := .tuple [.int m, .tuple (ds.map deedD), .int o]
theorem fw_short : ∀ p ∈ fwL, p.1.cps.size ≤ 5 ∧ (p.1.cps.toList.all fun c => decide (c < 16 ^ 8)) = true ∧ p.2 ≤ 2 := by decide +kernel
theorem nice_deed {m : Int} {d : Deed} (h : DeedOk m d) (hm : m ≤ 100) : Nice 18 1 (deedD d) := by
  obtain ⟨h1, h2, h3⟩ := fw_short _ h.word
  refine nice_tup (b := 5) (k := 0) (fun x hx => ?_) ?_
  · rcases List.mem_cons.mp hx with rfl | hx
    · exact nice_str h1 h2
    · obtain ⟨i, hi, rfl⟩ := List.mem_map.mp hx
      obtain ⟨i0, i1⟩ := h.ahead i hi
      exact (nice_int (by omega)).mono (by decide) (by decide)
  · rw [List.length_cons, List.length_map]
    have : (d.2.length : Int) ≤ 2 := h3
    omega
theorem nice_row {m o : Int} {ds : List Deed} (h : RowOk m ds o) : Nice 459 3 (rowD m ds o) := by
  have hm := h.m1
  have hm3 := h.m3
  have hl := h.len
  have ho := h.o0
  have ho1 := h.o1
  refine nice_tup (b := 152) (k := 2) (fun x hx => ?_) (by simp only [List.length_cons, List.length_nil]; decide)
  simp only [List.mem_cons, List.not_mem_nil, or_false] at hx
  rcases hx with rfl | rfl | rfl
  · exact (nice_int (by omega)).mono (by decide) (by decide)
  · refine nice_tup (b := 18) (k := 1) (fun x hx => ?_) ?_
    · obtain ⟨d, hd, rfl⟩ := List.mem_map.mp hx
      obtain ⟨k, hk⟩ := List.mem_iff_getElem?.mp hd
      have hk1 := (List.getElem?_eq_some_iff.mp hk).1
      exact nice_deed (h.deeds.each k d hk) (by omega)
    · rw [List.length_map]
      omega
  · exact (nice_int (by omega)).mono (by decide) (by decide)
/-! ### what the row reads -/
section
variable {X : Cx}
theorem rz_ints (H : Hp) : ∀ l : List Int, Paired (Rz X H) (l.map V.int) (l.map PyData.int)
  | [] => .nil
  | i :: l => .cons (Rz.int H i) (rz_ints H l)
theorem rz_deed {H : Hp} {r : Addr} {d : Deed} (h : H r = some (.tup (dV d))) : Rz X H (.ref r) (deedD d) := Rz.tup (SqT.of h) (.cons (Rz.str H _) (rz_ints H _))
theorem rz_deeds {H : Hp} : ∀ {rs : List Addr} {ds : List Deed}, DsAt H rs ds → Paired (Rz X H) (rs.map V.ref) (ds.map deedD)
  | _, _, .nil => .nil
  | _, _, .cons h t => .cons (rz_deed h) (rz_deeds t)
theorem rz_row {H : Hp} {R : Addr} {m o : Int} {ds : List Deed} (h : RowAt H R m ds o) : Rz X H (.ref R) (rowD m ds o) := by
  obtain ⟨D, rs, e1, e2, e3⟩ := h
  exact Rz.tup (SqT.of e1) (.cons (Rz.int H m) (.cons (Rz.tup (SqT.of e2) (rz_deeds e3)) (.cons (Rz.int H o) .nil)))
/-- a dict of texts and ints -/
abbrev siK (es : List (Str × Int)) : List (Key × V) := es.map fun p => (Sum.inr p.1, .int p.2)
theorem si_reads {prog : Program} {w : World} {h : Heap} : ∀ (es : List (Str × Int)) (vs : List (Key × Value)) (en : List DictEntry), KV (siK es) vs → Pairs (mixKind prog w) en vs →
    ReadsAll h (en.map (·.key)) ((es.map fun p => (PyData.str p.1, PyData.int p.2)).map (·.1)) [] ∧ ReadsAll h (en.map (·.val)) ((es.map fun p => (PyData.str p.1, PyData.int p.2)).map (·.2)) []
  | [], _, _, .nil, .nil => ⟨.nil, .nil⟩
  | (x, i) :: es, _, _, .cons hh t, .cons hk hv hp => by
    obtain ⟨h1, h2⟩ := si_reads es _ _ t hp
    obtain ⟨k1, t1, e1⟩ := hh
    rw [← k1] at hk
    obtain ⟨t2, e2⟩ := Value.isStrOf_shape (x := x) hk
    refine ⟨?_, ?_⟩
    · simp only [List.map_cons]
      rw [e2]
      exact ReadsAll.cons (as := []) (Reads.str x t2) h1
    · simp only [List.map_cons]
      rw [hv, e1]
      exact ReadsAll.cons (as := []) (Reads.int i t1) h2
theorem rz_dict {H : Hp} {C : Addr} {es : List (Str × Int)} (h : H C = some (.dK (siK es))) : Rz X H (.ref C) (.dict (es.map fun p => (PyData.str p.1, PyData.int p.2))) := by
  intro pins σ s u I r
  obtain rfl : u = Value.ref C := r
  obtain ⟨_, hs, vs, hkv, o, en, ep, e1, e2, e3, e4, e5, e6⟩ := I.hok C _ h
  obtain ⟨r1, r2⟩ := si_reads (prog := X.prog) (w := X.w) (h := s.heap) es vs _ hkv e5
  refine ⟨_, Reads.dict e1 e2.1 e3 r1 r2, ?_⟩
  intro z
  simp only [List.append_nil, List.mem_cons, List.not_mem_nil, or_false] at z
  rw [← z] at hs
  simp at hs
end
theorem nice_dict {n : Nat} : ∀ {es : List (Str × Int)}, (∀ p ∈ es, p.1.cps.size ≤ 5 ∧ (p.1.cps.toList.all fun c => decide (c < 16 ^ 8)) = true ∧ p.2.natAbs < 10 ^ 20) → es.length * 7 ≤ n →
    Nice n 1 (.dict (es.map fun p => (PyData.str p.1, PyData.int p.2))) := by
  intro es h hn
  have key : ∀ es : List (Str × Int), (∀ p ∈ es, p.1.cps.size ≤ 5 ∧ (p.1.cps.toList.all fun c => decide (c < 16 ^ 8)) = true ∧ p.2.natAbs < 10 ^ 20) →
      PyData.showableKv (es.map fun p => (PyData.str p.1, PyData.int p.2)) = true ∧ PyData.leavesShortKv 21 (es.map fun p => (PyData.str p.1, PyData.int p.2)) = true ∧ PyData.bulkKv (es.map fun p => (PyData.str p.1, PyData.int p.2)) ≤ es.length * 7 ∧ PyData.depthKv (es.map fun p => (PyData.str p.1, PyData.int p.2)) = 0 := by
    intro es
    induction es with
    | nil => intro _; exact ⟨by simp only [List.map_nil, PyData.showableKv], by simp only [List.map_nil, PyData.leavesShortKv], by simp only [List.map_nil, PyData.bulkKv, Nat.zero_le], by simp only [List.map_nil, PyData.depthKv]⟩
    | cons p es ih =>
      intro h
      obtain ⟨h1, h2, h3, h4⟩ := ih fun q hq => h q (List.mem_cons_of_mem _ hq)
      obtain ⟨a, b, c⟩ := h p List.mem_cons_self
      obtain ⟨i1, i2, i3, i4⟩ := nice_int c
      obtain ⟨s1, s2, s3, s4⟩ := nice_str a b
      refine ⟨by simp only [List.map_cons, PyData.showableKv, i1, s1, h1, Bool.and_self], by simp only [List.map_cons, PyData.leavesShortKv, i2, s2, h2, Bool.and_self], ?_, ?_⟩
      · simp only [List.map_cons, PyData.bulkKv, List.length_cons]
        omega
      · simp only [List.map_cons, PyData.depthKv]
        omega
  obtain ⟨h1, h2, h3, h4⟩ := key es h
  exact ⟨by simpa only [PyData.showable] using h1, by simpa only [PyData.leavesShort] using h2, by simp only [PyData.bulk]; omega, by simp only [PyData.depth]; omega⟩
/-! ### values of rows -/
theorem strEq {x y : Str} (h : decide (V.str x = V.str y) = true) : x = y := V.str.inj (of_decide_eq_true h)
theorem strNe {x y : Str} (h : ¬ decide (V.str x = V.str y) = true) : ¬ x = y := fun e => h (decide_eq_true (congrArg V.str e))
def argAt (d : Deed) (told : List Int) (k : Nat) : Int := told.getD (d.2.getD k 0).toNat 0
def dvalue (x : Str) (A B size : Int) : Int :=
  if x = "none" then 0 else if x = "one" then 1 else if x = "all" then size - 1 else if x = "not" then size - 1 - A else if x = "neg" then -A else if x = "twice" then A + A
  else if x = "and" then Builtin.bitAnd A B else if x = "or" then Builtin.bitOr A B else if x = "xor" then Builtin.bitXor A B else if x = "add" then A + B else A - B
def dval (size : Int) (d : Deed) (told : List Int) : Int := dvalue d.1 (argAt d told 0) (argAt d told 1) size % size
def vals (size : Int) : List Deed → List Int → List Int
  | [], told => told
  | d :: ds, told => vals size ds (told ++ [dval size d told])
theorem vals_append (size : Int) : ∀ (l1 l2 : List Deed) (t : List Int), vals size (l1 ++ l2) t = vals size l2 (vals size l1 t)
  | [], _, _ => rfl
  | d :: l1, l2, t => vals_append size l1 l2 (t ++ [dval size d t])
theorem vals_len {size : Int} : ∀ (ds : List Deed) (t : List Int), (vals size ds t).length = t.length + ds.length
  | [], _ => rfl
  | d :: ds, t => by
    show (vals size ds (t ++ [dval size d t])).length = _
    rw [vals_len ds, List.length_append, List.length_cons, List.length_cons, List.length_nil]
    omega
theorem vals_next {size : Int} {ds : List Deed} {i : Nat} {d : Deed} {t : List Int} (h : ds[i]? = some d) : vals size (ds.take (i + 1)) t = vals size (ds.take i) t ++ [dval size d (vals size (ds.take i) t)] := by
  rw [List.take_add_one, h, vals_append]
  rfl
theorem atI_ints {l : List Int} {o : Int} (h0 : 0 ≤ o) (h1 : o < l.length) : atI (l.map V.int) o = some (.int (l.getD o.toNat 0)) := by
  obtain ⟨k, rfl⟩ := Int.eq_ofNat_of_zero_le h0
  have hk : k < l.length := by omega
  apply atI_nat
  rw [List.getElem?_map, List.getElem?_eq_getElem hk, Int.toNat_natCast, List.getD_eq_getElem?_getD, List.getElem?_eq_getElem hk]
  rfl
theorem fw_one : ∀ p ∈ fwL, ¬ p.1 = "none" → ¬ p.1 = "one" → ¬ p.1 = "all" → 1 ≤ p.2 := by decide +kernel
theorem fw_two' : ∀ p ∈ fwL, (decide (p.1 ∈ (["none", "one", "all", "not", "neg", "twice"] : List Str)) || decide (2 ≤ p.2)) = true := by decide +kernel
theorem fw_two (p : Str × Int) (h : p ∈ fwL) (n1 : ¬ p.1 = "none") (n2 : ¬ p.1 = "one") (n3 : ¬ p.1 = "all") (n4 : ¬ p.1 = "not") (n5 : ¬ p.1 = "neg") (n6 : ¬ p.1 = "twice") : 2 ≤ p.2 := by
  have e := fw_two' p h
  rw [Bool.or_eq_true] at e
  rcases e with e | e
  · have e2 := of_decide_eq_true e
    simp only [List.mem_cons, List.not_mem_nil, or_false] at e2
    rcases e2 with e2 | e2 | e2 | e2 | e2 | e2
    · exact absurd e2 n1
    · exact absurd e2 n2
    · exact absurd e2 n3
    · exact absurd e2 n4
    · exact absurd e2 n5
    · exact absurd e2 n6
  · exact of_decide_eq_true e
theorem arg_of {d : Deed} {told : List Int} (h : DeedOk told.length d) {k : Nat} (hk : k < d.2.length) : ∃ i, d.2[k]? = some i ∧ 0 ≤ i ∧ atI (told.map V.int) i = some (.int (argAt d told k)) := by
  have hg := List.getElem?_eq_getElem hk
  obtain ⟨i0, i1⟩ := h.ahead _ (List.getElem_mem hk)
  refine ⟨d.2[k], hg, i0, ?_⟩
  rw [atI_ints i0 i1]
  unfold argAt
  rw [List.getD_eq_getElem?_getD (l := d.2), hg]
  rfl
theorem arg1 {d : Deed} {told : List Int} (h : DeedOk told.length d) (n1 : ¬ d.1 = "none") (n2 : ¬ d.1 = "one") (n3 : ¬ d.1 = "all") : ∃ i, d.2[0]? = some i ∧ 0 ≤ i ∧ atI (told.map V.int) i = some (.int (argAt d told 0)) :=
  arg_of h (by have := fw_one _ h.word n1 n2 n3; show 0 < d.2.length; have e : (1 : Int) ≤ (d.2.length : Int) := this; omega)
theorem arg2 {d : Deed} {told : List Int} (h : DeedOk told.length d) (n1 : ¬ d.1 = "none") (n2 : ¬ d.1 = "one") (n3 : ¬ d.1 = "all") (n4 : ¬ d.1 = "not") (n5 : ¬ d.1 = "neg") (n6 : ¬ d.1 = "twice") :
    ∃ i, d.2[1]? = some i ∧ 0 ≤ i ∧ atI (told.map V.int) i = some (.int (argAt d told 1)) :=
  arg_of h (by have := fw_two _ h.word n1 n2 n3 n4 n5 n6; show 1 < d.2.length; have e : (2 : Int) ≤ (d.2.length : Int) := this; omega)
/-! ### the low bits of values -/
theorem pw_cast (n : Nat) : (2 : Int) ^ n = ((2 ^ n : Nat) : Int) := (PySem.W.kbt_cast n).symm
theorem pw_le {n k : Nat} (h : n ≤ k) : (2 : Int) ^ n ≤ 2 ^ k := by
  rw [pw_cast, pw_cast]
  exact Int.ofNat_le.mpr (Nat.pow_le_pow_right (by decide) h)
theorem pw_pos (n : Nat) : (0 : Int) < 2 ^ n := Int.pow_pos (by decide)
theorem castMod (a n : Nat) : ((a : Int) % 2 ^ n) = ((a % 2 ^ n : Nat) : Int) := by rw [pw_cast, Int.natCast_emod]
theorem low_and {A B : Int} (n : Nat) (ha : 0 ≤ A) (hb : 0 ≤ B) : Builtin.bitAnd (A % 2 ^ n) (B % 2 ^ n) % 2 ^ n = Builtin.bitAnd A B % 2 ^ n := by
  obtain ⟨a, rfl⟩ := Int.eq_ofNat_of_zero_le ha
  obtain ⟨b, rfl⟩ := Int.eq_ofNat_of_zero_le hb
  rw [castMod, castMod, bitAnd_pp (Int.natCast_nonneg _) (Int.natCast_nonneg _), bitAnd_pp (Int.natCast_nonneg _) (Int.natCast_nonneg _), castMod, castMod]
  simp only [Int.toNat_natCast]
  rw [Nat.and_mod_two_pow, Nat.and_mod_two_pow, Nat.mod_mod, Nat.mod_mod]
theorem low_or {A B : Int} (n : Nat) (ha : 0 ≤ A) (hb : 0 ≤ B) : Builtin.bitOr (A % 2 ^ n) (B % 2 ^ n) % 2 ^ n = Builtin.bitOr A B % 2 ^ n := by
  obtain ⟨a, rfl⟩ := Int.eq_ofNat_of_zero_le ha
  obtain ⟨b, rfl⟩ := Int.eq_ofNat_of_zero_le hb
  rw [castMod, castMod, bitOr_nn (Int.natCast_nonneg _) (Int.natCast_nonneg _), bitOr_nn (Int.natCast_nonneg _) (Int.natCast_nonneg _), castMod, castMod]
  simp only [Int.toNat_natCast]
  rw [Nat.or_mod_two_pow, Nat.or_mod_two_pow, Nat.mod_mod, Nat.mod_mod]
theorem low_xor {A B : Int} (n : Nat) (ha : 0 ≤ A) (hb : 0 ≤ B) : Builtin.bitXor (A % 2 ^ n) (B % 2 ^ n) % 2 ^ n = Builtin.bitXor A B % 2 ^ n := by
  obtain ⟨a, rfl⟩ := Int.eq_ofNat_of_zero_le ha
  obtain ⟨b, rfl⟩ := Int.eq_ofNat_of_zero_le hb
  rw [castMod, castMod, Bits.bitXor_pp (Int.natCast_nonneg _) (Int.natCast_nonneg _), Bits.bitXor_pp (Int.natCast_nonneg _) (Int.natCast_nonneg _), castMod, castMod]
  simp only [Int.toNat_natCast]
  rw [Nat.xor_mod_two_pow, Nat.xor_mod_two_pow, Nat.mod_mod, Nat.mod_mod]
theorem pw_dvd {n k : Nat} (h : n ≤ k) : (2 : Int) ^ n ∣ 2 ^ k := ⟨2 ^ (k - n), by rw [← Int.pow_add]; congr 1; omega⟩
theorem emod_same {a b m : Int} (k : Int) (h : a - b = m * k) : a % m = b % m := Int.emod_eq_emod_iff_emod_sub_eq_zero.mpr (by rw [h]; exact Int.mul_emod_right m k)
theorem dvalue_low' {x : Str} {N c qa qb ra rb A B : Int} (ea : N * qa + ra = A) (eb : N * qb + rb = B) (l1 : Builtin.bitAnd ra rb % N = Builtin.bitAnd A B % N) (l2 : Builtin.bitOr ra rb % N = Builtin.bitOr A B % N)
    (l3 : Builtin.bitXor ra rb % N = Builtin.bitXor A B % N) : dvalue x ra rb N % N = dvalue x A B (N * c) % N := by
  unfold dvalue
  by_cases h1 : x = "none"
  · rw [if_pos h1, if_pos h1]
  rw [if_neg h1, if_neg h1]
  by_cases h2 : x = "one"
  · rw [if_pos h2, if_pos h2]
  rw [if_neg h2, if_neg h2]
  by_cases h3 : x = "all"
  · rw [if_pos h3, if_pos h3]
    exact emod_same (1 - c) (by rw [Int.mul_sub, Int.mul_one]; omega)
  rw [if_neg h3, if_neg h3]
  by_cases h4 : x = "not"
  · rw [if_pos h4, if_pos h4]
    exact emod_same (1 - c + qa) (by rw [Int.mul_add, Int.mul_sub, Int.mul_one]; omega)
  rw [if_neg h4, if_neg h4]
  by_cases h5 : x = "neg"
  · rw [if_pos h5, if_pos h5]
    exact emod_same qa (by omega)
  rw [if_neg h5, if_neg h5]
  by_cases h6 : x = "twice"
  · rw [if_pos h6, if_pos h6]
    exact emod_same (-qa - qa) (by rw [Int.mul_sub, Int.mul_neg]; omega)
  rw [if_neg h6, if_neg h6]
  by_cases h7 : x = "and"
  · rw [if_pos h7, if_pos h7]
    exact l1
  rw [if_neg h7, if_neg h7]
  by_cases h8 : x = "or"
  · rw [if_pos h8, if_pos h8]
    exact l2
  rw [if_neg h8, if_neg h8]
  by_cases h9 : x = "xor"
  · rw [if_pos h9, if_pos h9]
    exact l3
  rw [if_neg h9, if_neg h9]
  by_cases h10 : x = "add"
  · rw [if_pos h10, if_pos h10]
    exact emod_same (-qa - qb) (by rw [Int.mul_sub, Int.mul_neg]; omega)
  rw [if_neg h10, if_neg h10]
  exact emod_same (qb - qa) (by rw [Int.mul_sub]; omega)
theorem dvalue_low {x : Str} {A B : Int} {n k : Nat} (hA : 0 ≤ A) (hB : 0 ≤ B) (h : n ≤ k) : dvalue x (A % 2 ^ n) (B % 2 ^ n) (2 ^ n) % 2 ^ n = dvalue x A B (2 ^ k) % 2 ^ n := by
  obtain ⟨c, hc⟩ := pw_dvd h
  rw [hc]
  exact dvalue_low' (Int.mul_ediv_add_emod A (2 ^ n)) (Int.mul_ediv_add_emod B (2 ^ n)) (low_and n hA hB) (low_or n hA hB) (low_xor n hA hB)
theorem getD_low (N : Int) (l : List Int) (i : Nat) : (l.map (· % N)).getD i 0 = l.getD i 0 % N := by
  rw [List.getD_eq_getElem?_getD, List.getD_eq_getElem?_getD, List.getElem?_map]
  cases l[i]? with
  | none => exact (Int.zero_emod N).symm
  | some y => rfl
theorem arg_nn {told : List Int} (h : ∀ x ∈ told, 0 ≤ x) (d : Deed) (j : Nat) : 0 ≤ argAt d told j := by
  unfold argAt
  rw [List.getD_eq_getElem?_getD]
  cases e : told[(d.2.getD j 0).toNat]? with
  | none => exact Int.le_refl 0
  | some y => exact h y (List.mem_of_getElem? e)
theorem dval_low {d : Deed} {told : List Int} {n k : Nat} (h : ∀ x ∈ told, 0 ≤ x) (hk : n ≤ k) : dval (2 ^ n) d (told.map (· % 2 ^ n)) = dval (2 ^ k) d told % 2 ^ n := by
  unfold dval
  have e : ∀ j, argAt d (told.map (· % 2 ^ n)) j = argAt d told j % 2 ^ n := fun j => getD_low _ _ _
  rw [e, e, dvalue_low (arg_nn h d 0) (arg_nn h d 1) hk, Int.emod_emod_of_dvd _ (pw_dvd hk)]
theorem vals_low {n k : Nat} (hk : n ≤ k) : ∀ (ds : List Deed) (told : List Int), (∀ x ∈ told, 0 ≤ x) → vals (2 ^ n) ds (told.map (· % 2 ^ n)) = (vals (2 ^ k) ds told).map (· % 2 ^ n)
  | [], _, _ => rfl
  | d :: ds, told, h => by
    show vals (2 ^ n) ds (told.map (· % 2 ^ n) ++ [dval (2 ^ n) d (told.map (· % 2 ^ n))]) = (vals (2 ^ k) ds (told ++ [dval (2 ^ k) d told])).map (· % 2 ^ n)
    rw [dval_low h hk, ← vals_low hk ds, List.map_append]
    · rfl
    · intro x hx
      rcases List.mem_append.mp hx with hx | hx
      · exact h x hx
      · rw [List.mem_singleton.mp hx]
        exact Int.emod_nonneg _ (by have := pw_pos k; omega)
theorem vals_range {size : Int} (hs : 0 < size) : ∀ (ds : List Deed) (told : List Int), (∀ x ∈ told, 0 ≤ x ∧ x < size) → ∀ x ∈ vals size ds told, 0 ≤ x ∧ x < size
  | [], _, h => h
  | d :: ds, told, h => by
    refine vals_range hs ds (told ++ [dval size d told]) fun x hx => ?_
    rcases List.mem_append.mp hx with hx | hx
    · exact h x hx
    · rw [List.mem_singleton.mp hx]
      exact ⟨Int.emod_nonneg _ (by omega), Int.emod_lt_of_pos _ hs⟩
/-! ### lists of ints compared -/
theorem eqv_ints : ∀ l : List Int, PyData.eqv (.list (l.map PyData.int)) (.list (l.map PyData.int)) = true := fun l => SeqAt.eqv_refl _ (SeqAt.canLay_of_shaped (shaped_ints l))
theorem dget_at {H : Hp} {a : Addr} {kvs : List (Key × V)} {k : Key} {v : V} (e : H a = some (.dK kvs)) (h : valV kvs k = some v) : DGet H a (kV k) (some v) := h ▸ DGet.k e
theorem fw_cases {x : Str} {n : Nat} (h : (x, (n : Int)) ∈ fwL) : (n = 0 ∧ (x = "none" ∨ x = "one" ∨ x = "all")) ∨ (n = 1 ∧ (x = "not" ∨ x = "neg" ∨ x = "twice")) ∨ (n = 2 ∧ (x = "and" ∨ x = "or" ∨ x = "xor" ∨ x = "add" ∨ x = "sub")) := by
  unfold fwL at h
  simp only [List.mem_cons, List.not_mem_nil, or_false, Prod.mk.injEq] at h
  rcases h with h | h | h | h | h | h | h | h | h | h | h
  · exact .inl ⟨by omega, .inl h.1⟩
  · exact .inl ⟨by omega, .inr (.inl h.1)⟩
  · exact .inl ⟨by omega, .inr (.inr h.1)⟩
  · exact .inr (.inl ⟨by omega, .inl h.1⟩)
  · exact .inr (.inl ⟨by omega, .inr (.inl h.1)⟩)
  · exact .inr (.inl ⟨by omega, .inr (.inr h.1)⟩)
  · exact .inr (.inr ⟨by omega, .inl h.1⟩)
  · exact .inr (.inr ⟨by omega, .inr (.inl h.1)⟩)
  · exact .inr (.inr ⟨by omega, .inr (.inr (.inl h.1))⟩)
  · exact .inr (.inr ⟨by omega, .inr (.inr (.inr (.inl h.1)))⟩)
  · exact .inr (.inr ⟨by omega, .inr (.inr (.inr (.inr h.1)))⟩)
theorem and_lt {A B : Int} {n : Nat} (a0 : 0 ≤ A) (a1 : A < 2 ^ n) (b0 : 0 ≤ B) : Builtin.bitAnd A B % 2 ^ n = Builtin.bitAnd A B := by
  obtain ⟨a, rfl⟩ := Int.eq_ofNat_of_zero_le a0
  obtain ⟨b, rfl⟩ := Int.eq_ofNat_of_zero_le b0
  rw [bitAnd_pp (Int.natCast_nonneg _) (Int.natCast_nonneg _), castMod]
  rw [pw_cast] at a1
  simp only [Int.toNat_natCast]
  rw [Nat.mod_eq_of_lt (Nat.lt_of_le_of_lt Nat.and_le_left (by omega))]
theorem or_lt {A B : Int} {n : Nat} (a0 : 0 ≤ A) (a1 : A < 2 ^ n) (b0 : 0 ≤ B) (b1 : B < 2 ^ n) : Builtin.bitOr A B % 2 ^ n = Builtin.bitOr A B := by
  obtain ⟨a, rfl⟩ := Int.eq_ofNat_of_zero_le a0
  obtain ⟨b, rfl⟩ := Int.eq_ofNat_of_zero_le b0
  rw [bitOr_nn (Int.natCast_nonneg _) (Int.natCast_nonneg _), castMod]
  rw [pw_cast] at a1 b1
  simp only [Int.toNat_natCast]
  rw [Nat.mod_eq_of_lt (Nat.or_lt_two_pow (by omega) (by omega))]
theorem xor_lt {A B : Int} {n : Nat} (a0 : 0 ≤ A) (a1 : A < 2 ^ n) (b0 : 0 ≤ B) (b1 : B < 2 ^ n) : Builtin.bitXor A B % 2 ^ n = Builtin.bitXor A B := by
  obtain ⟨a, rfl⟩ := Int.eq_ofNat_of_zero_le a0
  obtain ⟨b, rfl⟩ := Int.eq_ofNat_of_zero_le b0
  rw [Bits.bitXor_pp (Int.natCast_nonneg _) (Int.natCast_nonneg _), castMod]
  rw [pw_cast] at a1 b1
  simp only [Int.toNat_natCast]
  rw [Nat.mod_eq_of_lt (Nat.xor_lt_two_pow (by omega) (by omega))]
/-! ### all but the first -/
theorem sIx_one (x : V) (xs : List V) : HT.sIx (x :: xs).length 0 (some 1) = 1 := by
  have e : HT.sIx (x :: xs).length 0 (some 1) = min 1 (x :: xs).length := HT.sIx_nat (x :: xs).length 0 1
  rw [e, List.length_cons]
  omega
theorem cutTail (x : V) (xs : List V) : cutV (x :: xs) (some 1) none = xs := by
  have h2 : HT.sIx (x :: xs).length (x :: xs).length none = (x :: xs).length := HT.sIx_none _ _
  unfold cutV
  rw [sIx_one, h2]
  simp
theorem notWhole (x : V) (xs : List V) : ¬ (HT.sIx (x :: xs).length 0 (some 1) = 0 ∧ HT.sIx (x :: xs).length (x :: xs).length none = (x :: xs).length) := by
  rw [sIx_one]
  exact fun h => absurd h.1 (by decide)
theorem intEq {x y : Int} (h : decide (V.int x = V.int y) = true) : x = y := V.int.inj (of_decide_eq_true h)
theorem intNe {x y : Int} (h : ¬ decide (V.int x = V.int y) = true) : ¬ x = y := fun e => h (decide_eq_true (congrArg V.int e))
/-! ### t + u of two tuples at hand, whatever they hold -/
section
variable {X : Cx}
def rCatZ : R2 := fun x y H Q => ∃ a b xs ys, x = .ref a ∧ y = .ref b ∧ H a = some (.tup xs) ∧ H b = some (.tup ys) ∧ xs.length + ys.length ≤ sizeLine ∧ ∀ p H2, Same H H2 → H2 p = some (.tup (xs ++ ys)) → Q (.ref p) H2
theorem op_catZ : OpR X (binaryOp .Add) rCatZ := by
  intro pins s σ H x y v u Q I rx ry h
  obtain ⟨a, b, xs, ys, rfl, rfl, ha, hb, hz, q⟩ := h
  refine op_catA pins s σ H _ _ v u Q I rx ry ⟨a, b, xs, ys, rfl, rfl, SqT.of ha, SqT.of hb, hz, fun e => ?_, fun _ e => ?_, fun _ _ p hp => ?_⟩
  · subst e
    exact q b H (Same.refl H) hb
  · subst e
    exact q a H (Same.refl H) (by rw [List.append_nil]; exact ha)
  · exact q p _ (same_new hp) upd_same
end
theorem awAppend {α β : Type} {F : α → β → Prop} : ∀ {l k : List α} {l2 k2 : List β}, Paired F l l2 → Paired F k k2 → Paired F (l ++ k) (l2 ++ k2)
  | _, _, _, _, .nil, h => h
  | _, _, _, _, .cons r t, h => .cons r (awAppend t h)
theorem dsOk_append {m t : Int} {ds es : List Deed} (h : DsOk m ds) (k : DsOk t es) (e : t = m + ds.length) : DsOk m (ds ++ es) := by
  constructor
  intro i d hi
  by_cases hl : i < ds.length
  · rw [List.getElem?_append_left hl] at hi
    exact h.each i d hi
  · rw [List.getElem?_append_right (by omega)] at hi
    have := k.each _ d hi
    rw [e] at this
    have e2 : m + (ds.length : Int) + ((i - ds.length : Nat) : Int) = m + i := by omega
    rw [e2] at this
    exact this
/-- all but one stands as it stood -/
def But (f : Addr) (H H2 : Hp) : Prop := ∀ b o, b ≠ f → H b = some o → H2 b = some o
theorem But.trans {f : Addr} {H H1 H2 : Hp} (a : But f H H1) (b : But f H1 H2) : But f H H2 := fun c o n e => b c o n (a c o n e)
theorem But.same {f : Addr} {H H2 : Hp} (s : Same H H2) : But f H H2 := fun b o _ e => s b o e
theorem But.put {f : Addr} {H : Hp} {o : HO} : But f H (upd H f o) := fun b u n e => by
  rw [upd_ne n]
  exact e
theorem But.tups {f : Addr} {H H2 : Hp} {xs : List V} (h : But f H H2) (e : H f = some (.lst xs)) : TupsStay H H2 := fun b ys z => h b _ (ne_of z e (fun q => nomatch q)) z
/-! ### the tape -/
def TP (H : Hp) (a : Addr) : Prop := ∃ x y : Int, H a = some (.lst [.int x, .int y])
theorem TP.same {H H2 : Hp} {a : Addr} (h : TP H a) (s : Same H H2) : TP H2 a := by
  obtain ⟨x, y, e⟩ := h
  exact ⟨x, y, s _ _ e⟩
theorem TP.ne_new {H : Hp} {a p : Addr} (h : TP H a) (e : H p = none) : p ≠ a := by
  obtain ⟨x, y, e1⟩ := h
  exact (ne_of_none e1 e).symm
theorem TP.upd {H : Hp} {a p : Addr} {o : HO} (h : TP H a) (n : p ≠ a) : TP (upd H p o) a := by
  obtain ⟨x, y, e1⟩ := h
  exact ⟨x, y, by rw [upd_ne n.symm]; exact e1⟩
theorem But.tape {a : Addr} {H H2 : Hp} (h : But a H H2) (t : TP H a) : TupsStay H H2 := by
  obtain ⟨x, y, e⟩ := t
  exact h.tups e
theorem But.refl (a : Addr) (H : Hp) : But a H H := fun _ _ _ e => e
theorem atI_in {α : Type} {l : List α} {i : Int} (h0 : 0 ≤ i) (h1 : i < l.length) : ∃ v, atI l i = some v ∧ v ∈ l := by
  obtain ⟨k, rfl⟩ := Int.eq_ofNat_of_zero_le h0
  have hk : k < l.length := by omega
  exact ⟨l[k], atI_nat (List.getElem?_eq_getElem hk), List.getElem_mem hk⟩
/-! ### texts in written tuples -/
theorem inS (x : Str) : ∀ l : List Str, inV (.str x) (l.map V.str) = decide (x ∈ l)
  | [] => rfl
  | y :: l => by
    have ih := inS x l
    show (eqV (.str y) (.str x) || inV (.str x) (l.map V.str)) = _
    rw [ih]
    by_cases h : x = y
    · subst h
      simp [eqV]
    · have h2 : ¬ y = x := fun e => h e.symm
      simp [eqV, h, h2]
def tw12 : List Str := ["add", "sub", "and", "xor", "or", "not", "twice", "neg", "all", "one", "none", "add"]
def twC : List Str := ["add", "sub", "twice", "neg", "one"]
theorem tw_zero : ∀ x ∈ (["all", "one", "none"] : List Str), (x, (0 : Int)) ∈ fwL := by decide +kernel
theorem tw_one : ∀ x ∈ (["not", "twice", "neg"] : List Str), (x, (1 : Int)) ∈ fwL := by decide +kernel
theorem tw_two : ∀ x ∈ tw12, x ∈ (["all", "one", "none"] : List Str) ∨ x ∈ (["not", "twice", "neg"] : List Str) ∨ (x, (2 : Int)) ∈ fwL := by decide +kernel
theorem tw_four : ∀ x ∈ (["and", "or", "xor", "not"] : List Str), x ∈ tw12 := by decide +kernel
theorem mem_strs {v : V} {l : List Str} (h : v ∈ l.map V.str) : ∃ x, x ∈ l ∧ v = .str x := by
  obtain ⟨x, hx, e⟩ := List.mem_map.mp h
  exact ⟨x, hx, e.symm⟩
/-! ### bits and carries of rows -/
def fcD (d : Deed) : Int := if d.1 ∈ (["neg", "one"] : List Str) then 1 else 0
def dbit (x : Str) (a b c : Int) : Int :=
  if x = "none" then 0 else if x = "all" then 1 else if x = "one" then c else if x = "twice" then c else if x = "not" then 1 - a else if x = "neg" then Builtin.bitXor (1 - a) c
  else if x = "and" then Builtin.bitAnd a b else if x = "or" then Builtin.bitOr a b else if x = "xor" then Builtin.bitXor a b else Builtin.bitXor (Builtin.bitXor a b) c
def dcar (x : Str) (a b c : Int) : Int :=
  if x = "neg" then Builtin.bitAnd (1 - a) c else if x = "twice" then a else if x = "add" then (a + b + c) / 2 else if x = "sub" then (1 - a + b + c) / 2 else 0
def dbitAt (d : Deed) (c : Int) (told : List Int) : Int := dbit d.1 (argAt d told 0) (argAt d told 1) c
def dcarAt (d : Deed) (c : Int) (told : List Int) : Int := dcar d.1 (argAt d told 0) (argAt d told 1) c
def bts : List Deed → List Int → List Int → List Int
  | d :: ds, c :: cs, told => bts ds cs (told ++ [dbitAt d c told])
  | _, _, told => told
def nxt (ds : List Deed) (cs told : List Int) : List Int := List.zipWith (fun d c => dcarAt d c told) ds cs
abbrev Bit (x : Int) : Prop := x = 0 ∨ x = 1
theorem bit0 : Bit 0 := .inl rfl
theorem bit1 : Bit 1 := .inr rfl
theorem dbit_bit {x : Str} {a b c : Int} (ha : Bit a) (hb : Bit b) (hc : Bit c) : Bit (dbit x a b c) := by
  have n1 : Bit (1 - a) := by rcases ha with rfl | rfl <;> simp [Bit]
  have hx : ∀ {p q : Int}, Bit p → Bit q → Bit (Builtin.bitXor p q) := fun hp hq => by
    rcases hp with rfl | rfl <;> rcases hq with rfl | rfl <;> decide
  have hand : ∀ {p q : Int}, Bit p → Bit q → Bit (Builtin.bitAnd p q) := fun hp hq => by
    rcases hp with rfl | rfl <;> rcases hq with rfl | rfl <;> decide
  have hor : ∀ {p q : Int}, Bit p → Bit q → Bit (Builtin.bitOr p q) := fun hp hq => by
    rcases hp with rfl | rfl <;> rcases hq with rfl | rfl <;> decide
  unfold dbit
  split; · exact bit0
  split; · exact bit1
  split; · exact hc
  split; · exact hc
  split; · exact n1
  split; · exact hx n1 hc
  split; · exact hand ha hb
  split; · exact hor ha hb
  split; · exact hx ha hb
  exact hx (hx ha hb) hc
theorem dcar_bit {x : Str} {a b c : Int} (ha : Bit a) (hb : Bit b) (hc : Bit c) : Bit (dcar x a b c) := by
  unfold dcar
  split
  · rcases ha with rfl | rfl <;> rcases hc with rfl | rfl <;> decide
  split; · exact ha
  split
  · rcases ha with rfl | rfl <;> rcases hb with rfl | rfl <;> rcases hc with rfl | rfl <;> decide
  split
  · rcases ha with rfl | rfl <;> rcases hb with rfl | rfl <;> rcases hc with rfl | rfl <;> decide
  exact bit0
theorem argAt_bit {told : List Int} (h : ∀ x ∈ told, Bit x) (d : Deed) (j : Nat) : Bit (argAt d told j) := by
  unfold argAt
  rw [List.getD_eq_getElem?_getD]
  cases e : told[(d.2.getD j 0).toNat]? with
  | none => exact bit0
  | some y => exact h y (List.mem_of_getElem? e)
theorem bts_next : ∀ {ds : List Deed} {cs t : List Int} {i : Nat} {d : Deed} {c : Int}, ds[i]? = some d → cs[i]? = some c → bts (ds.take (i + 1)) (cs.take (i + 1)) t = bts (ds.take i) (cs.take i) t ++ [dbitAt d c (bts (ds.take i) (cs.take i) t)]
  | [], _, _, _, _, _, h, _ => by simp at h
  | _ :: _, [], _, _, _, _, _, h => by simp at h
  | e :: ds, g :: cs, t, 0, d, c, h, k => by
    simp only [List.getElem?_cons_zero, Option.some.injEq] at h k
    subst h k
    rfl
  | e :: ds, g :: cs, t, i + 1, d, c, h, k => by
    simp only [List.getElem?_cons_succ] at h k
    exact bts_next (t := t ++ [dbitAt e g t]) h k
theorem bts_len : ∀ {ds : List Deed} {cs t : List Int}, ds.length = cs.length → (bts ds cs t).length = t.length + ds.length
  | [], [], _, _ => rfl
  | [], _ :: _, _, h => by simp at h
  | _ :: _, [], _, h => by simp at h
  | d :: ds, c :: cs, t, h => by
    show (bts ds cs (t ++ [dbitAt d c t])).length = _
    rw [bts_len (by simpa using h), List.length_append, List.length_cons, List.length_cons, List.length_nil]
    omega
theorem bts_bits : ∀ {ds : List Deed} {cs t : List Int}, (∀ x ∈ t, Bit x) → (∀ x ∈ cs, Bit x) → ∀ x ∈ bts ds cs t, Bit x
  | [], cs, t, h, _ => by
    unfold bts
    exact h
  | _ :: _, [], t, h, _ => by
    unfold bts
    exact h
  | d :: ds, c :: cs, t, h, k => by
    refine bts_bits (ds := ds) (cs := cs) (t := t ++ [dbitAt d c t]) (fun x hx => ?_) fun x hx => k x (List.mem_cons_of_mem _ hx)
    rcases List.mem_append.mp hx with hx | hx
    · exact h x hx
    · rw [List.mem_singleton.mp hx]
      exact dbit_bit (argAt_bit h d 0) (argAt_bit h d 1) (k c List.mem_cons_self)
theorem nxt_len {ds : List Deed} {cs t : List Int} (h : ds.length = cs.length) : (nxt ds cs t).length = ds.length := by
  unfold nxt
  rw [List.length_zipWith]
  omega
theorem nxt_bits {ds : List Deed} {cs t : List Int} (h : ∀ x ∈ t, Bit x) (k : ∀ x ∈ cs, Bit x) : ∀ x ∈ nxt ds cs t, Bit x := by
  intro x hx
  unfold nxt at hx
  obtain ⟨i, hi⟩ := List.mem_iff_getElem?.mp hx
  rw [List.getElem?_zipWith] at hi
  cases e1 : ds[i]? with
  | none => rw [e1] at hi; simp at hi
  | some d =>
    cases e2 : cs[i]? with
    | none => rw [e1, e2] at hi; simp at hi
    | some c =>
      rw [e1, e2] at hi
      have := Option.some.inj hi
      rw [← this]
      exact dcar_bit (argAt_bit h d 0) (argAt_bit h d 1) (k c (List.mem_of_getElem? e2))
theorem nxt_next {ds : List Deed} {cs t : List Int} {i : Nat} {d : Deed} {c : Int} (h : ds[i]? = some d) (k : cs[i]? = some c) : (nxt ds cs t).take (i + 1) = (nxt ds cs t).take i ++ [dcarAt d c t] := by
  rw [List.take_add_one]
  unfold nxt
  rw [List.getElem?_zipWith, h, k]
  rfl
section
variable {K : PySem.W.Frag} {a b : Addr} {xs ys : List V}
theorem walk_zipT (hn : xs.length = ys.length) : Walk (RZ.ItzT K a b) xs.length (fun H => SqT K H a xs ∧ SqT K H b ys) (YPair (fun i => xs[i]?) (fun i => ys[i]?)) where
  goes := fun i H hi q => ⟨xs, ys, xs[i], ys[i]'(by omega), q.1, q.2, List.getElem?_eq_getElem hi, List.getElem?_eq_getElem (by omega)⟩
  stops := fun H q => ⟨xs, ys, q.1, q.2, .inl (Nat.le_refl _)⟩
  yields := fun i H v H2 hi q y => by
    obtain ⟨T, x, z, h1, h2, h3, h4, h5⟩ := y
    exact ⟨T, x, z, h1, h2, h3, h4 xs q.1, h5 ys q.2⟩
end
/-! ### own exceptions as values -/
section
variable {X : Cx} {K : PySem.W.Frag}
theorem kit_ref {D C : Addr} {b : Bool} (h1 : PySem.W.isClsIn K C = true) (h2 : PySem.W.typeIn K (.ref C) = some (.type "type")) (h3 : PySem.W.subIn K (.ref D) (.ref C) = some b) (h4 : PySem.W.subIn K (.ref C) (.ref C) = some true) : PySem.W.kitOne K (.ref D) (.ref C) = some b := by
  unfold PySem.W.kitOne
  by_cases e : D = C
  · subst e
    rw [h3] at h4
    rw [if_pos (by simp), h4]
  · rw [if_neg (by simpa using e)]
    have e1 : ((PySem.W.clsIn K C).isSome && PySem.W.typeIn K (.ref C) == some (.type "type")) = true := by
      have h1' : (PySem.W.clsIn K C).isSome = true := h1
      rw [h1', h2]
      rfl
    show (if ((PySem.W.clsIn K C).isSome && PySem.W.typeIn K (.ref C) == some (.type "type")) = true then PySem.W.subIn K (.ref D) (.ref C) else none) = some b
    rw [if_pos e1]
    exact h3
theorem kit_ve {D : Addr} {b : Bool} (h : PySem.W.subIn K (.ref D) (.type "ValueError") = some b) : PySem.W.kitOne K (.ref D) (.type "ValueError") = some b := by
  have e1 : PySem.W.kitMeta "ValueError" = true := by decide +kernel
  show (if PySem.W.kitMeta "ValueError" = true then PySem.W.subIn K (.ref D) (.type "ValueError") else none) = some b
  rw [if_pos e1]
  exact h
def rIsX (K : PySem.W.Frag) : List V → Hp → VK → Prop := fun xs H Q => ∃ (a D : Addr) (c : V) (cv : Value) (b : Bool), xs = [.ref a, c] ∧ H a = some (ExO (.ref D) a) ∧ ExcC K D ∧ ClsV c cv ∧ PySem.W.kitOne K (.ref D) cv = some b ∧ Q (.bl b) H
theorem call_isX : CallR X (.builtin "isinstance") (rIsX X.K) := by
  intro pins s σ H xs us Q I r h
  obtain ⟨a, D, c, cv, b, rfl, ha, hD, hc, hk, q⟩ := h
  match us, r with
  | [u1, u2], .cons r1 (.cons r2 .nil) =>
    obtain rfl : u1 = Value.ref a := r1
    obtain rfl := ClsV.eq hc r2
    obtain ⟨⟨oe, vs, hget, ⟨z1, z2⟩, hv, _⟩, _, _⟩ := I.hok a _ ha
    have J : PySem.W.InstAt s.heap a oe D none := by
      obtain ⟨oc, od, oda, osl⟩ := oe
      dsimp only at z1 z2 hv
      subst z1 z2 hv
      exact ⟨hget, rfl, rfl, trivial⟩
    exact PySem.W.kia_one (PySem.W.handS_kitx_exc hD.hg hD.hk hD.hs hD.hd hD.ha hD.hn hD.ht hD.hm) I.kIn J hk (fun z => nomatch z) fun tk => ⟨.bl b, H, I.kept (t' := tk) fun _ _ z => z, rfl, q⟩
end
theorem dp_bls {K : PySem.W.Frag} {H : Hp} : ∀ cs : List Bool, DpAll K H (cs.map V.bl) (cs.map PyData.bool)
  | [] => .nil
  | c :: cs => .cons (.bl c) (dp_bls cs)
theorem lay_bls : ∀ cs : List Bool, PyData.canLayAll0 (cs.map PyData.bool) = true ∧ PyData.depthAll (cs.map PyData.bool) = 0
  | [] => ⟨by simp only [List.map_nil, PyData.canLayAll0], by simp only [List.map_nil, PyData.depthAll]⟩
  | c :: cs => by
    obtain ⟨h1, h2⟩ := lay_bls cs
    exact ⟨by simp only [List.map_cons, PyData.canLayAll0, PyData.canLay0, h1, Bool.and_self], by simp only [List.map_cons, PyData.depthAll, PyData.depth, h2, Nat.max_self]⟩
theorem shaped_bls (cs : List Bool) : SeqAt.shaped (.list (cs.map PyData.bool)) = true := by
  obtain ⟨h1, h2⟩ := lay_bls cs
  simp only [SeqAt.shaped, PyData.canLay0, PyData.depth, h1, h2, Bool.true_and]
  decide
theorem eqv_bls (l : List Bool) : PyData.eqv (.list (l.map PyData.bool)) (.list (l.map PyData.bool)) = true := SeqAt.eqv_refl _ (SeqAt.canLay_of_shaped (shaped_bls l))
/-- a test that is never asked -/
def tNevT : TT := fun _ _ _ => False
theorem pt_never {X : Cx} {e : Expr} : PT X e tNevT := ⟨fun _ _ _ _ _ _ h => h.elim⟩
end AW
namespace KK
open PySem PySem.Spec PyProof.Rows L2 AW
def topS (i : Nat) : Stmt := PySem.Challenge.pw_anywide_k46_whole_machines_of_long_rows.main.body.getD i (.Pass ⟨0, 0, 0, 0⟩)
abbrev s_wall : Stmt := topS 0
abbrev N_wall : List Str := ["k"]
theorem sc_wall : FnScope N_wall ["k"] (defScope s_wall) := ⟨rfl, rfl, rfl, by decide +kernel, rfl, by decide +kernel, by decide +kernel⟩
abbrev s_all_bits : Stmt := topS 2
abbrev N_all_bits : List Str := ["many", "choices", "place", "bits", "bit"]
theorem sc_all_bits : FnScope N_all_bits ["many"] (defScope s_all_bits) := ⟨rfl, rfl, rfl, by decide +kernel, rfl, by decide +kernel, by decide +kernel⟩
abbrev s_first_carry : Stmt := topS 3
abbrev N_first_carry : List Str := ["row", "deed"]
theorem sc_first_carry : FnScope N_first_carry ["row"] (defScope s_first_carry) := ⟨rfl, rfl, rfl, by decide +kernel, rfl, by decide +kernel, by decide +kernel⟩
abbrev s_deed_bit : Stmt := topS 4
abbrev N_deed_bit : List Str := ["deed", "held", "told", "word", "first", "second"]
theorem sc_deed_bit : FnScope N_deed_bit ["deed", "held", "told"] (defScope s_deed_bit) := ⟨rfl, rfl, rfl, by decide +kernel, rfl, by decide +kernel, by decide +kernel⟩
abbrev s_bits_of : Stmt := topS 5
abbrev N_bits_of : List Str := ["row", "carry", "bits", "told", "deed", "held"]
theorem sc_bits_of : FnScope N_bits_of ["row", "carry", "bits"] (defScope s_bits_of) := ⟨rfl, rfl, rfl, by decide +kernel, rfl, by decide +kernel, by decide +kernel⟩
abbrev s_two_or_more : Stmt := topS 6
abbrev N_two_or_more : List Str := ["one", "other", "third"]
theorem sc_two_or_more : FnScope N_two_or_more ["one", "other", "third"] (defScope s_two_or_more) := ⟨rfl, rfl, rfl, by decide +kernel, rfl, by decide +kernel, by decide +kernel⟩
abbrev s_deed_carry : Stmt := topS 7
abbrev N_deed_carry : List Str := ["deed", "held", "told", "word"]
theorem sc_deed_carry : FnScope N_deed_carry ["deed", "held", "told"] (defScope s_deed_carry) := ⟨rfl, rfl, rfl, by decide +kernel, rfl, by decide +kernel, by decide +kernel⟩
abbrev s_carry_behind : Stmt := topS 8
abbrev N_carry_behind : List Str := ["row", "carry", "told", "deed", "held"]
theorem sc_carry_behind : FnScope N_carry_behind ["row", "carry", "told"] (defScope s_carry_behind) := ⟨rfl, rfl, rfl, by decide +kernel, rfl, by decide +kernel, by decide +kernel⟩
abbrev s_steps : Stmt := topS 9
abbrev N_steps : List Str := ["row", "carry", "told", "bits", "all_told"]
theorem sc_steps : FnScope N_steps ["row", "carry"] (defScope s_steps) := ⟨rfl, rfl, rfl, by decide +kernel, rfl, by decide +kernel, by decide +kernel⟩
abbrev s_whole_machine : Stmt := topS 13
abbrev N_whole_machine : List Str := ["row", "choices", "walk", "machine", "at", "carry", "state", "bits", "bit", "after"]
theorem sc_whole_machine : FnScope N_whole_machine ["row"] (defScope s_whole_machine) := ⟨rfl, rfl, rfl, by decide +kernel, rfl, by decide +kernel, by decide +kernel⟩
abbrev s_numbered : Stmt := topS 14
abbrev N_numbered : List Str := ["looks", "numbers", "look"]
theorem sc_numbered : FnScope N_numbered ["looks"] (defScope s_numbered) := ⟨rfl, rfl, rfl, by decide +kernel, rfl, by decide +kernel, by decide +kernel⟩
abbrev s_kinds_of_states : Stmt := topS 15
abbrev N_kinds_of_states : List Str := ["machine", "kinds", "many", "behind", "bit", "after", "state"]
theorem sc_kinds_of_states : FnScope N_kinds_of_states ["machine"] (defScope s_kinds_of_states) := ⟨rfl, rfl, rfl, by decide +kernel, rfl, by decide +kernel, by decide +kernel⟩
abbrev s_least_machine : Stmt := topS 16
abbrev N_least_machine : List Str := ["row", "whole", "kinds", "least", "kind", "state", "bit", "after"]
theorem sc_least_machine : FnScope N_least_machine ["row"] (defScope s_least_machine) := ⟨rfl, rfl, rfl, by decide +kernel, rfl, by decide +kernel, by decide +kernel⟩
abbrev s_told_by : Stmt := topS 17
abbrev N_told_by : List Str := ["machine", "width", "words", "told", "number", "place", "at", "word", "bit"]
theorem sc_told_by : FnScope N_told_by ["machine", "width", "words"] (defScope s_told_by) := ⟨rfl, rfl, rfl, by decide +kernel, rfl, by decide +kernel, by decide +kernel⟩
abbrev s_law_tape : Stmt := topS 19
abbrev N_law_tape : List Str := ["script", "start", "cell"]
theorem sc_law_tape : FnScope N_law_tape ["script", "start"] (defScope s_law_tape) := ⟨rfl, rfl, rfl, by decide +kernel, rfl, by decide +kernel, by decide +kernel⟩
abbrev s_law_digit : Stmt := topS 20
abbrev N_law_digit : List Str := ["tape", "many", "found", "more"]
theorem sc_law_digit : FnScope N_law_digit ["tape", "many"] (defScope s_law_digit) := ⟨rfl, rfl, rfl, by decide +kernel, rfl, by decide +kernel, by decide +kernel⟩
abbrev s_law_deed : Stmt := topS 21
abbrev N_law_deed : List Str := ["tape", "ahead", "left", "some", "word", "numbers"]
theorem sc_law_deed : FnScope N_law_deed ["tape", "ahead", "left"] (defScope s_law_deed) := ⟨rfl, rfl, rfl, by decide +kernel, rfl, by decide +kernel, by decide +kernel⟩
abbrev s_law_carrying : Stmt := topS 22
abbrev N_law_carrying : List Str := ["deeds", "deed"]
theorem sc_law_carrying : FnScope N_law_carrying ["deeds"] (defScope s_law_carrying) := ⟨rfl, rfl, rfl, by decide +kernel, rfl, by decide +kernel, by decide +kernel⟩
abbrev s_law_row : Stmt := topS 23
abbrev N_law_row : List Str := ["tape", "many", "most", "left", "deeds", "k", "out"]
theorem sc_law_row : FnScope N_law_row ["tape", "many", "most", "left"] (defScope s_law_row) := ⟨rfl, rfl, rfl, by decide +kernel, rfl, by decide +kernel, by decide +kernel⟩
abbrev s_law_bit : Stmt := topS 24
abbrev N_law_bit : List Str := ["deed", "carry", "bits", "word", "one", "other"]
theorem sc_law_bit : FnScope N_law_bit ["deed", "carry", "bits"] (defScope s_law_bit) := ⟨rfl, rfl, rfl, by decide +kernel, rfl, by decide +kernel, by decide +kernel⟩
abbrev s_law_carry : Stmt := topS 25
abbrev N_law_carry : List Str := ["deed", "carry", "bits", "word"]
theorem sc_law_carry : FnScope N_law_carry ["deed", "carry", "bits"] (defScope s_law_carry) := ⟨rfl, rfl, rfl, by decide +kernel, rfl, by decide +kernel, by decide +kernel⟩
abbrev s_law_step : Stmt := topS 26
abbrev N_law_step : List Str := ["row", "carry", "bits", "told", "deed", "one"]
theorem sc_law_step : FnScope N_law_step ["row", "carry", "bits"] (defScope s_law_step) := ⟨rfl, rfl, rfl, by decide +kernel, rfl, by decide +kernel, by decide +kernel⟩
abbrev s_law_first : Stmt := topS 27
abbrev N_law_first : List Str := ["row", "deed"]
theorem sc_law_first : FnScope N_law_first ["row"] (defScope s_law_first) := ⟨rfl, rfl, rfl, by decide +kernel, rfl, by decide +kernel, by decide +kernel⟩
abbrev s_law_bits : Stmt := topS 28
abbrev N_law_bits : List Str := ["many", "found", "k", "some"]
theorem sc_law_bits : FnScope N_law_bits ["many"] (defScope s_law_bits) := ⟨rfl, rfl, rfl, by decide +kernel, rfl, by decide +kernel, by decide +kernel⟩
abbrev s_law_long_row : Stmt := topS 29
abbrev N_law_long_row : List Str := ["tape", "many", "left", "deeds", "k", "deed", "numbers"]
theorem sc_law_long_row : FnScope N_law_long_row ["tape", "many"] (defScope s_law_long_row) := ⟨rfl, rfl, rfl, by decide +kernel, rfl, by decide +kernel, by decide +kernel⟩
abbrev s_law_otherwise : Stmt := topS 30
abbrev N_law_otherwise : List Str := ["tape", "row", "found", "deed", "turn"]
theorem sc_law_otherwise : FnScope N_law_otherwise ["tape", "row"] (defScope s_law_otherwise) := ⟨rfl, rfl, rfl, by decide +kernel, rfl, by decide +kernel, by decide +kernel⟩
abbrev s_law_walk_right : Stmt := topS 31
abbrev N_law_walk_right : List Str := ["row", "machine", "states", "order", "at", "number", "bits", "told", "later", "bit", "there"]
theorem sc_law_walk_right : FnScope N_law_walk_right ["row", "machine"] (defScope s_law_walk_right) := ⟨rfl, rfl, rfl, by decide +kernel, rfl, by decide +kernel, by decide +kernel⟩
abbrev s_law_met_in_order : Stmt := topS 32
abbrev N_law_met_in_order : List Str := ["machine", "many", "at", "state", "bit", "there"]
theorem sc_law_met_in_order : FnScope N_law_met_in_order ["machine"] (defScope s_law_met_in_order) := ⟨rfl, rfl, rfl, by decide +kernel, rfl, by decide +kernel, by decide +kernel⟩
abbrev s_law_kinds : Stmt := topS 33
abbrev N_law_kinds : List Str := ["machine", "kinds", "many", "numbers", "later", "at", "state", "key", "bit", "there"]
theorem sc_law_kinds : FnScope N_law_kinds ["machine"] (defScope s_law_kinds) := ⟨rfl, rfl, rfl, by decide +kernel, rfl, by decide +kernel, by decide +kernel⟩
abbrev s_law_value : Stmt := topS 34
abbrev N_law_value : List Str := ["deed", "told", "full", "word", "one", "other"]
theorem sc_law_value : FnScope N_law_value ["deed", "told", "full"] (defScope s_law_value) := ⟨rfl, rfl, rfl, by decide +kernel, rfl, by decide +kernel, by decide +kernel⟩
abbrev s_law_values : Stmt := topS 35
abbrev N_law_values : List Str := ["row", "width", "words", "told", "deed"]
theorem sc_law_values : FnScope N_law_values ["row", "width", "words"] (defScope s_law_values) := ⟨rfl, rfl, rfl, by decide +kernel, rfl, by decide +kernel, by decide +kernel⟩
abbrev s_law : Stmt := topS 36
abbrev N_law : List Str := ["script", "start", "tape", "row", "machine", "width", "words", "k"]
theorem sc_law : FnScope N_law ["script"] (defScope s_law) := ⟨rfl, rfl, rfl, by decide +kernel, rfl, by decide +kernel, by decide +kernel⟩
abbrev c_Walk : Stmt := topS 11
section
variable {P : Program} {w : World} {K : PySem.W.Frag} {mg : Str → Option Value} {base : Heap}
/-! ### dicts whose keys are tuples: entries, walks, displays, the least value -/
section dts
theorem dt_raw {H : Hp} {h : Heap} {d : Addr} {kvs : List (List Key × V)} (ok : ObjOk P w H h d (.dT kvs)) :
    (d == sysModules) = false ∧ ∃ es ep, h.DictRaw d es ep ∧ es.size = kvs.length ∧ ∀ (i : Nat) (hi : i < es.size), ∃ k v q, kvs[i]? = some (k, v) ∧ es[i].key = .ref q ∧ H q = some (.tup (k.map kV)) ∧ RelV v es[i].val := by
  obtain ⟨_, hs, xs, pr, o, es, ep, ho, hx, hdt, he, _⟩ := ok
  have l1 : es.size = xs.length := size_of_entries he
  refine ⟨hs, es, ep, ⟨o, ho, hx, hdt⟩, l1.trans (awLen pr).symm, fun i hi => ?_⟩
  have hi2 : i < xs.length := by omega
  obtain ⟨⟨k, v⟩, h1, h2, h3, h4⟩ := awGet2 pr (List.getElem?_eq_getElem hi2)
  have e : es.toList[i]? = some (entryOfKey (tupleKind (mixKind P w)) xs[i]) := by
    rw [he, List.getElem?_map, List.getElem?_eq_getElem hi2]
    rfl
  have e2 : es[i] = entryOfKey (tupleKind (mixKind P w)) xs[i] := by
    rw [Array.getElem?_toList, Array.getElem?_eq_getElem hi] at e
    exact Option.some.inj e
  refine ⟨k, v, xs[i].2.1, h1, ?_, h3, ?_⟩
  · rw [e2]
    rfl
  · rw [e2]
    exact h4
/-- the pairs, each a new tuple with the key's own tuple -/
def ItT (d : Addr) (o : Obj) (kvs : List (List Key × V)) : It where
  go := fun i H => H d = some (.frz o (.dT kvs)) ∧ i < kvs.length
  yld := fun i H x H' => ∃ (T q : Addr) (k : List Key) (v : V), kvs[i]? = some (k, v) ∧ H q = some (.tup (k.map kV)) ∧ x = .ref T ∧ H T = none ∧ H' = upd H T (.tup [.ref q, v])
  stop := fun i H => H d = some (.frz o (.dT kvs)) ∧ kvs.length ≤ i
theorem turn_T {d : Addr} {o : Obj} {kvs : List (List Key × V)} {elts : List Expr} {kk : Nat} {tpos : Pos} (it : Addr) {ep : Nat} {es : Array DictEntry} (hod : o.data = .dict es ep) :
    Turn P w K (.Tuple elts kk tpos) (ItT d o kvs) [it] it (fun i h => ∃ x y, IsItemIter h it d i kvs.length ep x y) where
  mem := List.mem_singleton.mpr rfl
  obj := fun i h st b hb => by
    obtain rfl := List.mem_singleton.mp hb
    obtain ⟨x, y, e⟩ := st
    exact ⟨_, e, fun v z => nomatch z⟩
  keep := fun i h h' st k => by
    obtain ⟨x, y, e⟩ := st
    exact ⟨x, y, k it (List.mem_singleton.mpr rfl) _ e⟩
  item := by
    intro X hP hw hK hc i pins s σ H E I hf st hg
    subst hP hw hK
    obtain ⟨hd, hi⟩ := hg
    obtain ⟨hg1, okd⟩ := I.hok d _ hd
    obtain ⟨_, es', ep', raw, sz, ent⟩ := dt_raw okd
    have raw' := raw
    obtain ⟨o', ho', _, hdt'⟩ := raw'
    obtain rfl : o' = o := Option.some.inj (ho'.symm.trans hg1)
    obtain ⟨rfl, rfl⟩ := dict_ep hod hdt'
    obtain ⟨x, y, he⟩ := st
    have hi' : i < es'.size := by omega
    obtain ⟨k, v, q, hkv, hkey, hq, rv⟩ := ent i hi'
    rw [← sz] at he
    have below : it < s.heap.objs.size := Heap.lt_size he
    refine wpAny_pyNext_items_item_raw he raw hi' fun h' ho hT _ hk => ?_
    refine ⟨_, rfl, wpAny_letOwnedTupleGo_items (s := { s with heap := h' }) ho fun h2 he2 sb => ?_⟩
    have there : h2.get? s.heap.objs.size = some { cls := .type "tuple", data := .seq #[es'[i].key, es'[i].val] } := (sb.2 _ (Nat.ne_of_gt below)).trans hT
    have laid : ObjOk X.prog X.w (upd H s.heap.objs.size (.tup [.ref q, v])) h2 s.heap.objs.size (.tup [.ref q, v]) :=
      ⟨by show 2 ≤ sizeLine; decide, [es'[i].key, es'[i].val], .cons hkey (.cons rv .nil), ⟨_, there, rfl, _, rfl⟩⟩
    refine ⟨.ref s.heap.objs.size, _, I.turnedNew (t' := s.toks) (ch := [it]) (fun b ob hb e => ?_) hf (Nat.le_refl _) laid, rfl, ⟨_, q, k, v, hkv, hq, rfl, I.hok.fresh (Nat.le_refl _), rfl⟩, ⟨es'[i].key, es'[i].val, by rw [← sz]; exact he2⟩, fun b hb => ?_⟩
    · have nb : b ≠ it := fun z => hb (List.mem_singleton.mpr z)
      exact (sb.2 b nb).trans (hk b ob nb e)
    · obtain rfl := List.mem_singleton.mp hb
      rw [upd_ne (Nat.ne_of_lt below)]
      exact (hf b hb).1
  done := by
    intro X hP hw hK hc i pins s σ H E I hf st hg
    subst hP hw hK
    obtain ⟨hd, hi⟩ := hg
    obtain ⟨f0, f1, f2, f3, f4, f5⟩ := hf it (List.mem_singleton.mpr rfl)
    obtain ⟨hg1, okd⟩ := I.hok d _ hd
    obtain ⟨_, es', ep', raw, sz, _⟩ := dt_raw okd
    have raw' := raw
    obtain ⟨o', ho', _, hdt'⟩ := raw'
    obtain rfl : o' = o := Option.some.inj (ho'.symm.trans hg1)
    obtain ⟨rfl, rfl⟩ := dict_ep hod hdt'
    obtain ⟨x, y, he⟩ := st
    rw [← sz] at he
    refine wpAny_pyNext_items_end_raw (I.ok.hd hc) he raw (by omega) fun h' eb => ⟨rfl, ?_⟩
    exact I.turned (t' := s.toks) (fun b ob hb e => eb b ob hb e) f0 f1 f3 f4 f5
  self := fun A i s Q E st h => by
    obtain ⟨x, y, e⟩ := st
    exact wpAny_pyIter_itemiter e h
variable {X : Cx} {e : Expr} {td : TE} {apos cpos : Pos}
def iItT (td : TE) : TI := fun σ H R => td σ H fun x H1 => ∃ d o kvs, x = .ref d ∧ H1 d = some (.frz o (.dT kvs)) ∧ R (ItT d o kvs) H1
theorem pi_itT {elts : List Expr} {kk : Nat} {tpos : Pos} (he : PE X e td) (hb : attributeBase e "items" X.env (eval e X.env) = eval e X.env := by rfl) (hl : (apos.endLine == cpos.line) = true := by rfl) :
    PI X (.Tuple elts kk tpos) (.Call (.Attribute e "items" apos) [] [] cpos) (iItT td) := by
  constructor
  intro pins s σ H R I h
  refine wpAny_Call_method (T := "dict") (id := "dict.items") hb rfl hl F.plainAttrs_dict F.slot_dict_items F.type_dict_items (thn (he.run pins s σ H _ I h) ?_)
  rintro u s1 ⟨x, H1, I1, rx, d, o, kvs, rfl, hd, q⟩
  obtain rfl : u = Value.ref d := rx
  obtain ⟨hg1, okd⟩ := I1.hok d _ hd
  obtain ⟨hs, es, ep, raw, sz, _⟩ := dt_raw okd
  have raw' := raw
  obtain ⟨o', ho', hx', hdt'⟩ := raw'
  obtain rfl : o' = o := Option.some.inj (ho'.symm.trans hg1)
  have I2 : Inv X pins σ H1 { s1 with heap := s1.heap.push { cls := .type "dict_items", data := .fields #[.ref d] } } := I1.kept (t' := s1.toks) fun b ob z => Heap.get?_push_of_some _ z
  refine ⟨raw.typeIs, fun a z => ⟨o', by cases z; exact hg1, hx'.2.1⟩, ?_⟩
  refine method_meetsIn F.slot_dict_items F.entry_dict_items rfl (PySem.evalArgs_none ⟨rfl, raw.typeIs, F.args_dict_items_1 _, _, meets_dict_items_raw d hs, ⟨es, ep, raw⟩, ?_⟩)
  refine wpAny_pyIter_items_raw (d := d) ⟨_, Heap.get?_push_size _ rfl, rfl, rfl⟩ (raw.at fun ob z => Heap.get?_push_of_some _ z) (pi_one (tk := s1.toks) I2 _ (turn_T _ hdt') ⟨.none, .none, ?_⟩ q)
  rw [← sz]
  exact Heap.get?_push_size _ rfl
theorem walk_T {d : Addr} {o : Obj} {kvs : List (List Key × V)} : Walk (ItT d o kvs) kvs.length (fun H => H d = some (.frz o (.dT kvs)))
    (fun i H x H' => ∃ (T q : Addr) (k : List Key) (v : V), kvs[i]? = some (k, v) ∧ H q = some (.tup (k.map kV)) ∧ x = .ref T ∧ H T = none ∧ H' = upd H T (.tup [.ref q, v])) :=
  ⟨fun _ _ hi q => ⟨q, hi⟩, fun _ q => ⟨q, Nat.le_refl _⟩, fun _ _ _ _ _ _ y => y⟩
/-- d.values() -/
def valsO (p d : Addr) : HO := .ext fun h => h.IsValuesView p d
theorem valsO_ok {H : Hp} {h : Heap} {p d : Addr} (e : h.get? p = some { cls := .type "dict_values", data := .fields #[.ref d] }) : ObjOk P w H h p (valsO p d) := by
  refine ⟨⟨_, e, rfl, rfl⟩, ⟨_, e⟩, ?_⟩
  rintro h1 h2 ⟨o, ho, r⟩ k
  exact ⟨o, k o ho, r⟩
def rValsT : V → List V → Hp → VK → Prop := fun x xs H Q => ∃ (a : Addr) (kvs : List (List Key × V)), x = .ref a ∧ xs = [] ∧ H a = some (.dT kvs) ∧ ∀ p, H p = none → Q (.ref p) (upd H p (valsO p a))
theorem mt_valsT : MtR X "dict.values" rValsT := by
  intro pins s σ H x xs v us Q I rx rxs h
  obtain ⟨a, kvs, rfl, rfl, ha, q⟩ := h
  cases rx
  cases rxs
  obtain ⟨hs, es, ep, raw, _⟩ := dt_raw (I.hok a _ ha)
  refine call_meetsIn F.slot_dict_values raw.typeIs F.entry_dict_values (F.args_dict_values_1 _) (meets_dict_values_raw a hs) ⟨⟨es, ep, raw⟩, ?_⟩
  have I2 := I.laid (o := valsO s.heap.objs.size a) (t' := s.toks) (fun b u z => Heap.get?_push_of_some _ z) (Nat.le_refl _) (valsO_ok (H := upd H s.heap.objs.size (valsO s.heap.objs.size a)) (Heap.get?_push_size _ rfl))
  exact ⟨.ref _, _, I2, rfl, q _ (I.hok.fresh (Nat.le_refl _))⟩
theorem best_least {f : Nat → Int} : ∀ n, argBest (fun i j => decide (f i < f j)) n ≤ n ∧ ∀ j, j ≤ n → f (argBest (fun i j => decide (f i < f j)) n) ≤ f j
  | 0 => ⟨Nat.le_refl _, fun j hj => (Nat.le_zero.mp hj).symm ▸ Int.le_refl _⟩
  | n + 1 => by
    obtain ⟨h1, h2⟩ := best_least (f := f) n
    unfold argBest
    by_cases e : f (n + 1) < f (argBest (fun i j => decide (f i < f j)) n)
    · rw [if_pos (by simpa using e)]
      refine ⟨Nat.le_refl _, fun j hj => ?_⟩
      by_cases hj2 : j ≤ n
      · have := h2 j hj2
        omega
      · obtain rfl : j = n + 1 := by omega
        exact Int.le_refl _
    · rw [if_neg (by simpa using e)]
      refine ⟨by omega, fun j hj => ?_⟩
      by_cases hj2 : j ≤ n
      · exact h2 j hj2
      · obtain rfl : j = n + 1 := by omega
        omega
/-- min(d.values()), the values ints -/
def rMinV : List V → Hp → VK → Prop := fun vs H Q => ∃ (p a : Addr) (kvs : List (List Key × V)) (zs : List Int), vs = [.ref p] ∧ H p = some (valsO p a) ∧ H a = some (.dT kvs) ∧ kvs.map (·.2) = zs.map V.int ∧ zs ≠ [] ∧ ∀ z, z ∈ zs → (∀ y ∈ zs, z ≤ y) → Q (.int z) H
theorem call_minV (hc : X.calm = true) : CallR X (.builtin "min") rMinV := by
  intro pins s σ H vs us Q I r h
  obtain ⟨p, a, kvs, zs, rfl, hp, ha, hz, hne, q⟩ := h
  obtain ⟨u, rfl, ru⟩ := vals1 r
  obtain rfl : u = Value.ref p := ru
  obtain ⟨hs, es, ep, raw, sz, ent⟩ := dt_raw (I.hok a _ ha)
  have hv : s.heap.IsValuesView p a := (I.hok p _ hp).1
  have zl : zs.length = es.size := by
    have := congrArg List.length hz
    rw [List.length_map, List.length_map] at this
    omega
  have la : a < s.heap.objs.size := raw.elim fun o z => Heap.lt_size z.1
  refine call_min_walk (wpAny_pyIter_values_raw hv raw ?_)
  have rel : ∀ i v, (∃ hi : i < es.size, v = es[i].val) → ∃ t, v = .int (zs.getD i 0) t := by
    rintro i v ⟨hi, rfl⟩
    obtain ⟨k, v, _, hkv, _, _, rv⟩ := ent i hi
    have e : (kvs.map (·.2))[i]? = some v := by rw [List.getElem?_map, hkv]; rfl
    rw [hz, List.getElem?_map] at e
    cases e2 : zs[i]? with
    | none => rw [e2] at e; cases e
    | some z =>
      rw [e2] at e
      obtain rfl : V.int z = v := Option.some.inj e
      rw [List.getD_eq_getElem?_getD, e2]
      exact rv
  refine ⟨s.heap.objs.size, [s.heap.objs.size, a], [s.heap.objs.size], es.size, _, _, fun i j => decide (zs.getD i 0 < zs.getD j 0), rfl, Walks.rawValues (A := X.A.in1) (I.ok.hd hc) _ a (Nat.ne_of_lt la) es ep, ?_, ?_, ?_, CmpOf.ints_lt (fun i => zs.getD i 0) rel, ?_⟩
  · exact ⟨⟨_, Heap.get?_push_size _ rfl, rfl, rfl⟩, raw.at fun o z => Heap.get?_push_of_some _ z⟩
  · intro b hb
    show b < (s.heap.push _).objs.size
    rw [Heap.size_push]
    simp only [List.mem_cons, List.not_mem_nil, or_false] at hb
    rcases hb with rfl | rfl
    · exact Nat.lt_succ_self _
    · exact Nat.lt_succ_of_lt la
  · have := List.length_pos_iff.mpr hne
    omega
  · intro v h' tk hP hk
    obtain ⟨t, rfl⟩ := rel _ _ hP
    obtain ⟨b1, b2⟩ := best_least (f := fun i => zs.getD i 0) (es.size - 1)
    have pos := List.length_pos_iff.mpr hne
    generalize argBest (fun i j => decide (zs.getD i 0 < zs.getD j 0)) (es.size - 1) = m at b1 b2 hP
    have hm : m < zs.length := by omega
    have em : zs.getD m 0 = zs[m] := by rw [List.getD_eq_getElem?_getD, List.getElem?_eq_getElem hm]; rfl
    refine ⟨.int (zs.getD m 0), H, I.kept fun b o e => hk b o (fun z => ?_) (Heap.get?_push_of_some _ e), ⟨t, rfl⟩, q _ (by rw [em]; exact List.getElem_mem hm) fun y hy => ?_⟩
    · exact absurd (List.mem_singleton.mp z) (Nat.ne_of_lt (Heap.lt_size e))
    · obtain ⟨j, hj, rfl⟩ := List.mem_iff_getElem.mp hy
      have := b2 j (by omega)
      have ej : zs.getD j 0 = zs[j] := by rw [List.getD_eq_getElem?_getD, List.getElem?_eq_getElem hj]; rfl
      rw [ej] at this
      exact this
/-- whether a dict is not empty -/
theorem truth_H {κ : Type} [DecidableEq κ] {knd : HeapKind P w κ} {A : Around} {E : Value → Shared → Prop} {s : Shared} {d : Addr} {xs : List (κ × Addr × Value)} {Q : Bool → Shared → Prop} (hd : (d == sysModules) = false) (hm : s.heap.DictOfH knd d xs)
    (hf : (xs.length : Int) < 2 ^ 63) (h : Q (!xs.isEmpty) { s with toks := s.toks + 1 + 1 }) : wpAny (model P w) A (truthy (.ref d)) Q E s := by
  have e : ((xs.length : Int) != 0) = !xs.isEmpty := by cases xs <;> simp <;> omega
  have run : wpAny (model P w) A (runValue (.builtin "len" ⟨[.ref d], []⟩)) (fun r s' => r = .int xs.length (s.toks + 1) ∧ Q (!xs.isEmpty) s') E s := by
    apply wpAny_runValue
    apply codeAny_builtin entry_len
    rw [Around.under_plainId plain_len _]
    refine wpAny_mono (wpAny_len_body_dictH (Q := fun r s' => r = .int xs.length (s.toks + 1) ∧ Q (!xs.isEmpty) s') hd hm hf ⟨rfl, h⟩) ?_ (fun _ _ z => z)
    rintro fin s' ⟨r, rfl, z⟩
    exact z
  unfold truthy
  first
  | apply wpAny_bind; refine wpAny_callSpecial?_none (name := Str.ofString "__bool__") hm.typeIs noBool_dict ?_
  | apply wpAny_bind; apply wpAny_pure; apply wpAny_bind; refine wpAny_callSpecial?_none (name := Str.ofString "__bool__") hm.typeIs noBool_dict ?_
  first
  | apply wpAny_bind; refine wpAny_specialOf (name := Str.ofString "__len__") hm.typeIs F.slot_dict_len.lookup ?_
  | apply wpAny_bind; apply wpAny_pure; apply wpAny_bind; refine wpAny_specialOf (name := Str.ofString "__len__") hm.typeIs F.slot_dict_len.lookup ?_
  first
  | apply wpAny_bind
    refine wpAny_mono run ?_ (fun _ _ z => z)
    rintro r s' ⟨rfl, z⟩
    exact wpAny_pure (e ▸ z)
  | apply wpAny_bind
    apply wpAny_pure
    apply wpAny_bind
    refine wpAny_mono run ?_ (fun _ _ z => z)
    rintro r s' ⟨rfl, z⟩
    exact wpAny_pure (e ▸ z)
theorem tru_dT : TruR X (fun x H Q => ∃ a kvs, x = .ref a ∧ H a = some (.dT kvs) ∧ Q (!kvs.isEmpty) H) := by
  intro pins s σ H x v Q I rx h
  obtain ⟨a, kvs, rfl, ha, q⟩ := h
  obtain rfl : v = Value.ref a := rx
  obtain ⟨z, hd, ys, rel, dd⟩ := dt_of I.hok ha
  have hl : kvs.length = ys.length := awLen rel
  refine truth_H hd dd (by rw [← hl]; rw [sizeLine_eq] at z; omega) ⟨H, I.tok _, ?_⟩
  have e : (!ys.isEmpty) = !kvs.isEmpty := by cases rel <;> rfl
  rw [e]
  exact q
/-- {t: v}, t a tuple -/
def tDispT (tk tv : TE) : TE := fun σ H Q => ∀ p, H p = none → tk σ (upd H p (.dT [])) fun x H1 => tv σ H1 fun v H2 => ∃ b k, x = .ref b ∧ H2 b = some (.tup (k.map kV)) ∧ H2 p = some (.dT []) ∧ Q (.ref p) (upd H2 p (.dT [(k, v)]))
theorem pe_dispT {ek ev : Expr} {tk tv : TE} {pos : Pos} (hu : X.A.units < cLine) (hk : PE X ek tk) (hv : PE X ev tv) : PE X (.Dict [some ek] [ev] pos) (tDispT tk tv) := by
  constructor
  intro pins s σ H Q I q
  have hn := I.hok.fresh (Nat.le_refl s.heap.objs.size)
  have I1 := I.laid (a := s.heap.objs.size) (o := .dT []) (h' := s.heap.push { cls := .type "dict", data := .dict #[] }) (t' := s.toks) (fun _ _ z => Heap.get?_push_of_some _ z) (Nat.le_refl _) (dt_empty s.heap I.big)
  rw [arm_eval_Dict, zip_pairTrees [some ek] [ev] X.env pos rfl rfl, dictDisplay_pairs (pairTrees [some ek] [ev] X.env pos) (by simp [pairTrees]) (by simp [pairTrees])]
  apply wpAny_bind
  apply wpAny_standAt
  apply wpAny_bind
  refine wpAny_subDictH (knd := tupleKind (mixKind X.prog X.w)) (show X.A.units < cLine from hu) (by show 1 ≤ 15; decide) ?_
  refine thn ((pps_cons (pos := pos) hk hv pps_nil).run pins _ σ _ (fun ps H2 => match ps with | [(x, v)] => ∃ b k, x = .ref b ∧ H2 b = some (.tup (k.map kV)) ∧ H2 s.heap.objs.size = some (.dT []) ∧ Q (.ref s.heap.objs.size) (upd H2 s.heap.objs.size (.dT [(k, v)])) | _ => False) I1 (q _ hn)) ?_
  rintro ws s2 ⟨ps, H2, I2, rel, hq⟩
  match ps, ws, rel, hq with
  | [(x, v)], [(u1, u2)], .cons ⟨r1, r2⟩ .nil, ⟨b, k, e, hb, hp, q2⟩ =>
    subst e
    obtain rfl : u1 = Value.ref b := r1
    obtain ⟨_, hd, ys, r0, dd⟩ := dt_of I2.hok hp
    cases r0
    refine ⟨[(k, b, u2)], ⟨rfl, rfl, key_of I2.hok hb, trivial⟩, dd, fun h' tk dd' hs => ?_⟩
    obtain ⟨o, es, ep, ho, h2, h3, h4, _, h5⟩ := dd'
    have npb : b ≠ s.heap.objs.size := ne_of hb hp (fun z => nomatch z)
    have I3 : Inv X pins σ (upd H2 s.heap.objs.size (.dT [(k, v)])) { s2 with heap := h', toks := tk } :=
      d_write I2 (by rw [hp]; exact True.intro) hs ⟨o, ho⟩ ⟨by show 1 ≤ sizeLine; decide, hd, [(k, b, u2)], .cons ⟨rfl, by rw [upd_ne npb]; exact hb, r2⟩ .nil, o, es, ep, ho, h2, h3, h4, h5⟩
    exact wpAny_pure ⟨.ref s.heap.objs.size, _, I3, rfl, q2⟩
end dts
/-! ### dicts whose keys are nested tuples of ints -/
mutual
inductive NkAt (H : Hp) : NestedKey → V → Prop
  | num (i : Int) : NkAt H (.num i) (.int i)
  | tup {a : Addr} {xs : List V} {ks : List NestedKey} : H a = some (.tup xs) → NkAll H ks xs → NkAt H (.tup ks) (.ref a)
inductive NkAll (H : Hp) : List NestedKey → List V → Prop
  | nil : NkAll H [] []
  | cons {k : NestedKey} {v : V} {ks : List NestedKey} {vs : List V} : NkAt H k v → NkAll H ks vs → NkAll H (k :: ks) (v :: vs)
end
section nds
variable {X : Cx}
mutual
theorem nk_is {pins : List (Addr × Obj)} {σ : L2.St} {H : Hp} {s : Shared} (I : Inv X pins σ H s) : ∀ (k : NestedKey) (v : V) (u : Value), NkAt H k v → RelV v u → NestedIs s.heap k u
  | .none, _, _, h, _ => nomatch h
  | .text _, _, _, h, _ => nomatch h
  | .num i, _, _, h, r => by
    cases h
    obtain ⟨t, rfl⟩ := r
    exact .int _ _
  | .tup ks, _, _, h, r => by
    cases h with
    | tup e hs =>
      cases r
      obtain ⟨_, its, rv, o, ho, hc, n, hd⟩ := I.hok _ _ e
      exact .tup ho hc hd (by simpa using nks_is I ks _ _ hs rv)
theorem nks_is {pins : List (Addr × Obj)} {σ : L2.St} {H : Hp} {s : Shared} (I : Inv X pins σ H s) : ∀ (ks : List NestedKey) (vs : List V) (us : List Value), NkAll H ks vs → Vals vs us → NestedAll s.heap ks us
  | [], _, _, h, r => by
    cases h
    cases r
    exact .nil
  | k :: ks, _, _, h, r => by
    cases h with
    | cons h1 h2 =>
      cases r with
      | cons r1 r2 => exact .cons (nk_is I k _ _ h1 r1) (nks_is I ks _ _ h2 r2)
end
mutual
theorem nk_stay {H H' : Hp} (t : TupsStay H H') : ∀ (k : NestedKey) (v : V), NkAt H k v → NkAt H' k v
  | .none, _, h => nomatch h
  | .text _, _, h => nomatch h
  | .num i, _, h => by
    cases h
    exact .num i
  | .tup ks, _, h => by
    cases h with
    | tup e hs => exact .tup (t _ _ e) (nks_stay t ks _ hs)
theorem nks_stay {H H' : Hp} (t : TupsStay H H') : ∀ (ks : List NestedKey) (vs : List V), NkAll H ks vs → NkAll H' ks vs
  | [], _, h => by
    cases h
    exact .nil
  | k :: ks, _, h => by
    cases h with
    | cons h1 h2 => exact .cons (nk_stay t k _ h1) (nks_stay t ks _ h2)
end
abbrev NE := NestedKey × Addr × V
abbrev NRel : List NE → List (NestedKey × Addr × Value) → Prop := Paired fun p q => p.1 = q.1 ∧ p.2.1 = q.2.1 ∧ RelV p.2.2 q.2.2
def NDO (P : Program) (w : World) (a : Addr) (xs : List NE) : HO := .ext fun h => xs.length ≤ sizeLine ∧ (a == sysModules) = false ∧ ∃ ys, NRel xs ys ∧ ∃ o es ep, h.get? a = some o ∧ o.ExactDict ∧ o.data = .dict es ep ∧ es.toList = ys.map (entryOfKey (nestedKind P w)) ∧ (ys.map (·.1)).Nodup
theorem ndo_ok {P : Program} {w : World} {H : Hp} {h : Heap} {a : Addr} {xs : List NE} {ys : List (NestedKey × Addr × Value)} (hz : xs.length ≤ sizeLine) (hd : (a == sysModules) = false) (r : NRel xs ys) (dd : h.DictOfH (nestedKind P w) a ys) : ObjOk P w H h a (NDO P w a xs) := by
  obtain ⟨o, es, ep, h1, h2, h3, h4, _, h5⟩ := dd
  refine ⟨⟨hz, hd, ys, r, o, es, ep, h1, h2, h3, h4, h5⟩, ⟨o, h1⟩, ?_⟩
  rintro g1 g2 ⟨z1, z2, ys, z3, o, es, ep, z4, z5⟩ k
  exact ⟨z1, z2, ys, z3, o, es, ep, k o z4, z5⟩
structure ND (P : Program) (w : World) (H : Hp) (a : Addr) (xs : List NE) : Prop where
  ob : H a = some (NDO P w a xs)
  ks : ∀ p ∈ xs, NkAt H p.1 (.ref p.2.1) ∧ p.1.depth ≤ 8
theorem ND.full {pins : List (Addr × Obj)} {σ : L2.St} {H : Hp} {s : Shared} {a : Addr} {xs : List NE} (I : Inv X pins σ H s) (h : ND X.prog X.w H a xs) : xs.length ≤ sizeLine ∧ (a == sysModules) = false ∧ ∃ ys, NRel xs ys ∧ s.heap.DictOfH (nestedKind X.prog X.w) a ys := by
  obtain ⟨⟨z1, z2, ys, z3, o, es, ep, z4, z5, z6, z7, z8⟩, _⟩ := I.hok a _ h.ob
  refine ⟨z1, z2, ys, z3, o, es, ep, z4, z5, z6, z7, fun y hy => ?_, z8⟩
  obtain ⟨i, hi⟩ := List.mem_iff_getElem?.mp hy
  obtain ⟨p, hp, e1, e2, _⟩ := awGet2 z3 hi
  obtain ⟨k1, k2⟩ := h.ks p (List.mem_of_getElem? hp)
  rw [e1, e2] at k1
  rw [e1] at k2
  exact ⟨nk_is I _ _ _ k1 rfl, k2⟩
def getN (xs : List NE) (k : NestedKey) : Option V := (xs.find? fun x => decide (x.1 = k)).map (·.2.2)
theorem getN_rel {k : NestedKey} : ∀ {xs : List NE} {ys : List (NestedKey × Addr × Value)}, NRel xs ys → RelO (getN xs k) ((atKey ys k).map (·.2))
  | _, _, .nil => trivial
  | x :: _, y :: _, .cons ⟨e1, _, e3⟩ t => by
    have ih := getN_rel (k := k) t
    unfold getN atKey at *
    rw [List.find?_cons, List.find?_cons, ← e1]
    by_cases h : x.1 = k
    · rw [decide_eq_true h]
      exact e3
    · rw [decide_eq_false h]
      exact ih
theorem getN_none {k : NestedKey} {xs : List NE} : getN xs k = none ↔ ∀ p ∈ xs, p.1 ≠ k := by
  unfold getN
  rw [Option.map_eq_none_iff, List.find?_eq_none]
  simp
theorem getN_some {k : NestedKey} {xs : List NE} {v : V} (h : getN xs k = some v) : ∃ b, (k, b, v) ∈ xs := by
  unfold getN at h
  cases e : xs.find? fun x => decide (x.1 = k) with
  | none => rw [e] at h; cases h
  | some p =>
    rw [e] at h
    have h2 : p.1 = k := of_decide_eq_true (List.find?_some (p := fun x : NE => decide (x.1 = k)) e)
    obtain rfl : p.2.2 = v := Option.some.inj h
    exact ⟨p.2.1, h2 ▸ List.mem_of_find?_eq_some e⟩
theorem getN_snoc {k j : NestedKey} {b : Addr} {v : V} {xs : List NE} (hn : getN xs k = none) : getN (xs ++ [(k, b, v)]) j = if j = k then some v else getN xs j := by
  unfold getN at *
  rw [List.find?_append]
  by_cases h : j = k
  · subst h
    rw [if_pos rfl, Option.map_eq_none_iff.mp hn]
    simp
  · rw [if_neg h]
    have hk : ¬ k = j := fun z => h z.symm
    cases xs.find? fun x => decide (x.1 = j) with
    | none => simp [hk]
    | some p => rfl
theorem nd_stay {P : Program} {w : World} {H H' : Hp} {a : Addr} {xs : List NE} (h : ND P w H a xs) (e : H' a = some (NDO P w a xs)) (t : TupsStay H H') : ND P w H' a xs := ⟨e, fun p hp => ⟨nk_stay t _ _ (h.ks p hp).1, (h.ks p hp).2⟩⟩
theorem nd_same {P : Program} {w : World} {H H' : Hp} {a : Addr} {xs : List NE} (h : ND P w H a xs) (s : Same H H') : ND P w H' a xs := nd_stay h (s _ _ h.ob) (Same.tups s)
/-- {} -/
theorem pe_ndnew {P : Program} {w : World} (hP : X.prog = P) (hw : X.w = w) {pos : Pos} : PE X (.Dict [] [] pos) (fun _ H Q => ∀ p, H p = none → Q (.ref p) (upd H p (NDO P w p []))) := by
  subst hP hw
  constructor
  intro pins s σ H Q I h
  have ok : ObjOk X.prog X.w (upd H s.heap.objs.size (NDO X.prog X.w s.heap.objs.size [])) (s.heap.push { cls := .type "dict", data := .dict #[] }) s.heap.objs.size (NDO X.prog X.w s.heap.objs.size []) :=
    ndo_ok (Nat.zero_le _) (beq_eq_false_iff_ne.mpr (Ne.symm (Nat.ne_of_lt I.big))) .nil (Heap.DictOfH.new s.heap)
  exact wpAny_Dict_empty ⟨.ref _, _, I.laid (t' := s.toks) (fun _ _ z => Heap.get?_push_of_some _ z) (Nat.le_refl _) ok, rfl, h _ (I.hok.fresh (Nat.le_refl _))⟩
theorem nd_nil {P : Program} {w : World} {H : Hp} {a : Addr} : ND P w (upd H a (NDO P w a [])) a [] := ⟨upd_same, (fun _ z => nomatch z)⟩
/-- what is asked of a key -/
def KeyN (H : Hp) (y : V) (k : NestedKey) : Prop := NkAt H k y ∧ k.depth ≤ 8 ∧ ∃ b, y = .ref b
def tNGet (P : Program) (w : World) (td ty : TE) : TE := fun σ H Q => td σ H fun x H1 => ty σ H1 fun y H2 => ∃ a xs k v, x = .ref a ∧ ND P w H2 a xs ∧ KeyN H2 y k ∧ getN xs k = some v ∧ Q v H2
def tNNotIn (P : Program) (w : World) (ty td : TE) : TE := fun σ H Q => ty σ H fun y H1 => td σ H1 fun x H2 => ∃ a xs k, x = .ref a ∧ ND P w H2 a xs ∧ KeyN H2 y k ∧ Q (.bl (!(getN xs k).isSome)) H2
def sNPut (P : Program) (w : World) (td ty tv : TE) : TS := fun D σ H => tv σ H fun v H1 => td σ H1 fun x H2 => ty σ H2 fun y H3 => ∃ a xs k b, x = .ref a ∧ ND P w H3 a xs ∧ y = .ref b ∧ KeyN H3 y k ∧ getN xs k = none ∧ xs.length < sizeLine ∧ D.nx σ (upd H3 a (NDO P w a (xs ++ [(k, b, v)])))
theorem nd_put {P : Program} {w : World} {H : Hp} {a b : Addr} {xs : List NE} {k : NestedKey} {v : V} (h : ND P w H a xs) (hk : KeyN H (.ref b) k) : ND P w (upd H a (NDO P w a (xs ++ [(k, b, v)]))) a (xs ++ [(k, b, v)]) := by
  have t : TupsStay H (upd H a (NDO P w a (xs ++ [(k, b, v)]))) := fun c ys e => by
    rw [upd_ne (ne_of e h.ob (fun z => nomatch z))]
    exact e
  refine ⟨upd_same, fun p hp => ?_⟩
  rcases List.mem_append.mp hp with hp | hp
  · exact ⟨nk_stay t _ _ (h.ks p hp).1, (h.ks p hp).2⟩
  · rw [List.mem_singleton.mp hp]
    exact ⟨nk_stay t _ _ hk.1, hk.2.1⟩
theorem nd_at {pins : List (Addr × Obj)} {σ : L2.St} {H : Hp} {s : Shared} {y : V} {k : NestedKey} {u : Value} (I : Inv X pins σ H s) (hk : KeyN H y k) (r : RelV y u) : ∃ b, u = .ref b ∧ y = .ref b ∧ (nestedKind X.prog X.w).is s.heap k b := by
  obtain ⟨h1, h2, b, rfl⟩ := hk
  obtain rfl : u = Value.ref b := r
  exact ⟨b, rfl, rfl, nk_is I _ _ _ h1 rfl, h2⟩
theorem nrel_none {k : NestedKey} {xs : List NE} {ys : List (NestedKey × Addr × Value)} (r : NRel xs ys) (h : getN xs k = none) : atKey ys k = none := by
  have z := getN_rel (k := k) r
  rw [h] at z
  cases e : atKey ys k with
  | none => rfl
  | some p => rw [e] at z; exact z.elim
theorem pe_ndget {P : Program} {w : World} (hP : X.prog = P) (hw : X.w = w) {o i : Expr} {td ty : TE} {pos : Pos} (hu : X.A.units + 64 < cLine) (ho : PE X o td) (hi : PE X i ty) (hs : NoSl i) : PE X (.Subscript o i pos) (tNGet P w td ty) := by
  subst hP hw
  constructor
  intro pins s σ H Q I h
  refine subD_of PySem.F.slot_dict_getitem.lookup hs (thn (ho.run pins s σ H _ I h) ?_)
  rintro u s1 ⟨x, H1, I1, rx, q1⟩
  refine thn (hi.run pins s1 σ H1 _ I1 q1) ?_
  rintro iv s2 ⟨y, H2, I2, ry, a, xs, k, v, rfl, hn, hk, hv, q2⟩
  obtain rfl : u = Value.ref a := rx
  obtain ⟨b, rfl, rfl, hb⟩ := nd_at I2 hk ry
  obtain ⟨_, hd, ys, r, dd⟩ := hn.full I2
  have z := getN_rel (k := k) r
  rw [hv] at z
  cases e : atKey ys k with
  | none => rw [e] at z; exact z.elim
  | some p =>
    rw [e] at z
    exact ⟨dd.typeIs, wpAny_getItem_heap (knd := nestedKind X.prog X.w) (show X.A.in1.units + 8 < cLine by show X.A.units + 1 + 8 < cLine; omega) hb dd e ⟨v, H2, I2.tok _, z, q2⟩⟩
theorem pc_ndnotin {P : Program} {w : World} (hP : X.prog = P) (hw : X.w = w) {o i : Expr} {td ty : TE} (hu : X.A.units + 64 < cLine) (hi : PE X i ty) (ho : PE X o td) : PC X .NotIn i o (tNNotIn P w ty td) := by
  subst hP hw
  constructor
  intro pins s σ H Q I h
  refine thn (hi.run pins s σ H _ I h) ?_
  rintro iv s1 ⟨y, H1, I1, ry, q1⟩
  refine thn (ho.run pins s1 σ H1 _ I1 q1) ?_
  rintro u s2 ⟨x, H2, I2, rx, a, xs, k, rfl, hn, hk, q2⟩
  obtain rfl : u = Value.ref a := rx
  obtain ⟨b, rfl, rfl, hb⟩ := nd_at I2 hk ry
  obtain ⟨_, hd, ys, r, dd⟩ := hn.full I2
  have z := (getN_rel (k := k) r).isSome_eq
  rw [Option.isSome_map] at z
  refine notIn_keyed (knd := nestedKind X.prog X.w) (show X.A.in1.units + 8 < cLine by show X.A.units + 1 + 8 < cLine; omega) hb hd ⟨ys, dd, rfl⟩ ⟨.bl (!(getN xs k).isSome), H2, I2.tok _, ?_, q2⟩
  rw [valueAt_pairsH, Option.isSome_map, ← z]
  rfl
theorem nd_write {pins : List (Addr × Obj)} {σ : L2.St} {H : Hp} {s : Shared} {a b : Addr} {xs : List NE} {ys : List (NestedKey × Addr × Value)} {k : NestedKey} {v : V} {r : Value} {h' : Heap} {tk : Nat} (I : Inv X pins σ H s) (hn : ND X.prog X.w H a xs) (hl : xs.length < sizeLine) (rel : NRel xs ys) (hd : (a == sysModules) = false)
    (h0 : atKey ys k = none) (rv : RelV v r) (dd : h'.DictOfH (nestedKind X.prog X.w) a (storedH ys k b r)) (hs : Heap.SameBut a s.heap h') : Inv X pins σ (upd H a (NDO X.prog X.w a (xs ++ [(k, b, v)]))) { s with heap := h', toks := tk } := by
  rw [storedH_new h0] at dd
  have he : ∃ o, h'.get? a = some o := dd.elim fun o z => ⟨o, z.choose_spec.choose_spec.1⟩
  refine d_write I (by rw [hn.ob]; exact True.intro) hs he (ndo_ok ?_ hd (awSnoc (F := fun (p : NE) (q : NestedKey × Addr × Value) => p.1 = q.1 ∧ p.2.1 = q.2.1 ∧ RelV p.2.2 q.2.2) ⟨rfl, rfl, rv⟩ rel) dd)
  rw [List.length_append]
  exact hl
theorem ps_ndput {P : Program} {w : World} (hP : X.prog = P) (hw : X.w = w) {o i value : Expr} {td ty tv : TE} {pos pos' : Pos} (hu : X.A.units + 64 < cLine) (ho : PE X o td) (hi : PE X i ty) (hv : PE X value tv) (hs : swapsWith value (some (.Subscript o i pos')) pos.line X.env = pure false) :
    PS X (.Assign [.Subscript o i pos'] value pos) (sNPut P w td ty tv) := by
  subst hP hw
  constructor
  intro pins s σ H D I h
  refine wpAny_Assign_Subscript (thn (hv.run pins s σ H _ I h) ?_) hs
  rintro r s1 ⟨v, H1, I1, rv, q1⟩
  refine thn (ho.run pins s1 σ H1 _ I1 q1) ?_
  rintro u s2 ⟨x, H2, I2, rx, q2⟩
  refine thn (hi.run pins s2 σ H2 _ I2 q2) ?_
  rintro iv s3 ⟨y, H3, I3, ry, a, xs, k, b, rfl, hn, rfl, hk, hg, hl, q3⟩
  obtain rfl : u = Value.ref a := rx
  obtain ⟨b', rfl, eb, hb⟩ := nd_at I3 hk ry
  obtain rfl : b = b' := V.ref.inj eb
  obtain ⟨_, hd, ys, rel, dd⟩ := hn.full I3
  have hz : ys.length ≤ sizeLine := by
    have := awLen rel
    omega
  exact wpAny_setItem_heap (knd := nestedKind X.prog X.w) (hsz := hz) (show X.A.in1.units + 8 < cLine by show X.A.units + 1 + 8 < cLine; omega) hb dd fun h' dd' hs' => ⟨σ, _, nd_write I3 hn hl rel hd (nrel_none rel hg) rv dd' hs', q3⟩
/-- {t: v} -/
def tNDisp (P : Program) (w : World) (tk tv : TE) : TE := fun σ H Q => ∀ p, H p = none → tk σ (upd H p (NDO P w p [])) fun x H1 => tv σ H1 fun v H2 => ∃ b k, x = .ref b ∧ KeyN H2 x k ∧ H2 p = some (NDO P w p []) ∧ Q (.ref p) (upd H2 p (NDO P w p [(k, b, v)]))
theorem pe_ndisp {P : Program} {w : World} (hP : X.prog = P) (hw : X.w = w) {ek ev : Expr} {tk tv : TE} {pos : Pos} (hu : X.A.units + 64 < cLine) (hk : PE X ek tk) (hv : PE X ev tv) : PE X (.Dict [some ek] [ev] pos) (tNDisp P w tk tv) := by
  subst hP hw
  constructor
  intro pins s σ H Q I q
  have hn := I.hok.fresh (Nat.le_refl s.heap.objs.size)
  have ok : ObjOk X.prog X.w (upd H s.heap.objs.size (NDO X.prog X.w s.heap.objs.size [])) (s.heap.push { cls := .type "dict", data := .dict #[] }) s.heap.objs.size (NDO X.prog X.w s.heap.objs.size []) :=
    ndo_ok (Nat.zero_le _) (beq_eq_false_iff_ne.mpr (Ne.symm (Nat.ne_of_lt I.big))) .nil (Heap.DictOfH.new s.heap)
  have I1 := I.laid (t' := s.toks) (fun _ _ z => Heap.get?_push_of_some _ z) (Nat.le_refl _) ok
  rw [arm_eval_Dict, zip_pairTrees [some ek] [ev] X.env pos rfl rfl, dictDisplay_pairs (pairTrees [some ek] [ev] X.env pos) (by simp [pairTrees]) (by simp [pairTrees])]
  apply wpAny_bind
  apply wpAny_standAt
  apply wpAny_bind
  refine wpAny_subDictH (knd := nestedKind X.prog X.w) (show X.A.units + 8 < cLine by omega) (by show 1 ≤ 15; decide) ?_
  refine thn ((pps_cons (pos := pos) hk hv pps_nil).run pins _ σ _ (fun ps H2 => match ps with | [(x, v)] => ∃ b k, x = .ref b ∧ KeyN H2 x k ∧ H2 s.heap.objs.size = some (NDO X.prog X.w s.heap.objs.size []) ∧ Q (.ref s.heap.objs.size) (upd H2 s.heap.objs.size (NDO X.prog X.w s.heap.objs.size [(k, b, v)])) | _ => False) I1 (q _ hn)) ?_
  rintro ws s2 ⟨ps, H2, I2, rel, hq⟩
  match ps, ws, rel, hq with
  | [(x, v)], [(u1, u2)], .cons ⟨r1, r2⟩ .nil, ⟨b, k, e, hk2, hp, q2⟩ =>
    subst e
    obtain ⟨b', rfl, eb, hb⟩ := nd_at I2 hk2 r1
    obtain rfl : b = b' := V.ref.inj eb
    have hN : ND X.prog X.w H2 s.heap.objs.size [] := ⟨hp, (fun _ z => nomatch z)⟩
    obtain ⟨_, hd, ys, r0, dd⟩ := hN.full I2
    cases r0
    refine ⟨[(k, b, u2)], ⟨rfl, rfl, hb, trivial⟩, dd, fun h' tk dd' hs => ?_⟩
    exact wpAny_pure ⟨.ref s.heap.objs.size, _, nd_write I2 hN (by show 0 < sizeLine; decide) .nil hd rfl r2 dd' hs, rfl, q2⟩
/-- len(d) -/
theorem call_lenN {P : Program} {w : World} (hP : X.prog = P) (hw : X.w = w) : CallR X (.builtin "len") (fun vs H Q => ∃ p xs, vs = [.ref p] ∧ ND P w H p xs ∧ Q (.int ((xs.length : Nat) : Int)) H) := by
  subst hP hw
  intro pins s σ H vs us Q I r h
  obtain ⟨p, xs, rfl, hn, q⟩ := h
  obtain ⟨u, rfl, ru⟩ := vals1 r
  obtain rfl : u = Value.ref p := ru
  obtain ⟨z, hd, ys, rel, dd⟩ := hn.full I
  have hl : xs.length = ys.length := awLen rel
  refine call_len_dictH hd dd (by rw [← hl]; rw [sizeLine_eq] at z; omega) ?_
  rw [← hl]
  exact ⟨.int _, H, I.tok _, ⟨_, rfl⟩, q⟩
/-- d.setdefault(k, v) -/
def rNSetd (P : Program) (w : World) : V → List V → Hp → VK → Prop := fun x vs H Q => ∃ a xs k b v, x = .ref a ∧ vs = [.ref b, v] ∧ ND P w H a xs ∧ KeyN H (.ref b) k ∧ xs.length < sizeLine ∧ (∀ y, getN xs k = some y → Q y H) ∧ (getN xs k = none → Q v (upd H a (NDO P w a (xs ++ [(k, b, v)]))))
theorem mt_nsetd (hu : X.A.units + 64 < cLine) : MtR X "dict.setdefault" (rNSetd X.prog X.w) := by
  intro pins s σ H x vs v us Q I rx rxs h
  obtain ⟨a, xs, k, b, v0, rfl, rfl, hn, hk, hl, q1, q2⟩ := h
  cases rx
  obtain ⟨u1, u2, rfl, r1, r2⟩ := vals2 rxs
  obtain ⟨b', rfl, eb, hb⟩ := nd_at I hk r1
  obtain rfl : b = b' := V.ref.inj eb
  obtain ⟨_, hd, ys, rel, dd⟩ := hn.full I
  have hz : ys.length ≤ sizeLine := by
    have := awLen rel
    omega
  have z := getN_rel (k := k) rel
  refine call_setdefault_heap (knd := nestedKind X.prog X.w) (hsz := hz) (show X.A.in1.units + 8 < cLine by show X.A.units + 1 + 8 < cLine; omega) hb hd dd (fun p hp => ?_) (fun h0 h' dd' hs => ?_)
  · rw [hp] at z
    cases e : getN xs k with
    | none => rw [e] at z; exact z.elim
    | some y =>
      rw [e] at z
      exact ⟨y, H, I.tok _, z, q1 y e⟩
  · rw [h0] at z
    cases e : getN xs k with
    | some y => rw [e] at z; exact z.elim
    | none => exact ⟨v0, _, nd_write I hn hl rel hd h0 r2 dd' hs, r2, q2 e⟩
def tNSetd (P : Program) (w : World) (to : TE) (t : TA) : TE := fun σ H Q => to σ H fun x H1 => (∃ a xs, x = V.ref a ∧ ND P w H1 a xs) ∧ t σ H1 fun vs H2 => rNSetd P w x vs H2 Q
theorem pe_nsetd {P : Program} {w : World} (hP : X.prog = P) (hw : X.w = w) {o e : Expr} {es : List Expr} {to : TE} {t : TA} {apos cpos : Pos} (hu : X.A.units + 64 < cLine) (ho : PE X o to) (ha : PA X (e :: es) t)
    (c1 : attributeBase o "setdefault" X.env (eval o X.env) = eval o X.env := by rfl)
    (c2 : ((backTo cpos (starEach (e :: es) X.env)).all (fun x => !x.1) && (backToKw cpos (keywordEach [] X.env)).all (fun x => x.1.isSome) && decide ((e :: es).length + ([] : List Keyword).length + (if ([] : List Keyword).isEmpty then 0 else 1) < 30)) = true := by rfl)
    (c3 : (apos.endLine == cpos.line) = true := by rfl) (c4 : starEach (e :: es) X.env = (false, eval e X.env) :: starEach es X.env := by rfl) (c5 : (backTo cpos (starEach es X.env)).any (·.1) = false := by rfl) :
    PE X (.Call (.Attribute o "setdefault" apos) (e :: es) [] cpos) (tNSetd P w to t) := by
  subst hP hw
  constructor
  intro pins s σ H Q I h
  refine wpAny_Call_method_late c1 c2 c3 rfl (thn (ho.run pins s σ H _ I h) ?_)
  rintro v s1 ⟨x, H1, I1, r1, ⟨a, xs, rfl, hn⟩, q1⟩
  cases r1
  obtain ⟨_, hd, ys, rel, dd⟩ := hn.full I1
  obtain ⟨ob, es', ep, g1, g2, _⟩ := id dd
  refine ⟨"dict", "dict.setdefault", F.plainAttrs_dict, F.slot_dict_setdefault, F.type_dict_setdefault, dd.typeIs, (fun z e => ⟨ob, by injection e with e; rw [← e]; exact g1, g2.2.1⟩), ?_⟩
  have hA := ha.run cpos pins s1 σ H1 _ I1 q1
  rw [c4] at hA ⊢
  refine Calls.callWith_builtin (by show (false || (backTo cpos (starEach es X.env)).any (·.1)) = false; rw [c5]; rfl) (Calls.evalArgs_plain ?_)
  exact thn hA fun us s2 ⟨vs, H2, I2, r2, q2⟩ => mt_nsetd hu pins s2 σ H2 (.ref a) vs (.ref a) us Q I2 rfl r2 q2
end nds
/-! ### the class Walk -/
abbrev sWalk___init__ : Stmt := inClass c_Walk 0
abbrev sWalk_meet : Stmt := inClass c_Walk 1
theorem scWi : FnScope ["self", "first"] ["self", "first"] (defScope sWalk___init__) := ⟨rfl, rfl, rfl, by decide +kernel, rfl, by decide +kernel, by decide +kernel⟩
theorem scWm : FnScope ["self", "thing", "ahead", "bits"] ["self", "thing", "ahead", "bits"] (defScope sWalk_meet) := ⟨rfl, rfl, rfl, by decide +kernel, rfl, by decide +kernel, by decide +kernel⟩
theorem w_mn : ¬ ("met" : Str) = "numbers" := by decide +kernel
theorem w_mw : ¬ ("met" : Str) = "ways" := by decide +kernel
theorem w_nw : ¬ ("numbers" : Str) = "ways" := by decide +kernel
def wF (M N W : Addr) : List (Str × V) := putF "ways" (.ref W) (putF "numbers" (.ref N) (putF "met" (.ref M) []))
theorem wF_met (M N W : Addr) : (wF M N W).lookup ("met" : Str) = some (.ref M) := by
  unfold wF
  rw [lookup_putF, if_neg w_mw, lookup_putF, if_neg w_mn, lookup_putF, if_pos rfl]
theorem wF_num (M N W : Addr) : (wF M N W).lookup ("numbers" : Str) = some (.ref N) := by
  unfold wF
  rw [lookup_putF, if_neg w_nw, lookup_putF, if_pos rfl]
theorem wF_ways (M N W : Addr) : (wF M N W).lookup ("ways" : Str) = some (.ref W) := by
  unfold wF
  rw [lookup_putF, if_pos rfl]
theorem wF_no (M N W : Addr) {m : Str} (h1 : ¬ m = "ways") (h2 : ¬ m = "numbers") (h3 : ¬ m = "met") : (wF M N W).lookup m = none := by
  unfold wF
  rw [lookup_putF, if_neg h1, lookup_putF, if_neg h2, lookup_putF, if_neg h3]
  rfl
theorem wF_meet (M N W : Addr) : (wF M N W).lookup ("meet" : Str) = none := wF_no M N W (by decide +kernel) (by decide +kernel) (by decide +kernel)
structure WCls (K : PySem.W.Frag) (mg : Str → Option Value) (C : Addr) : Prop where
  cl : Cls K C
  nM : NoAttr K C "met"
  nN : NoAttr K C "numbers"
  nW : NoAttr K C "ways"
  mgC : mg "Walk" = some (.ref C)
abbrev WT := NestedKey × Addr
def numE (ts : List WT) : List NE := ts.mapIdx fun i t => (t.1, t.2, .int (i : Nat))
theorem numE_snoc (ts : List WT) (t : WT) : numE (ts ++ [t]) = numE ts ++ [(t.1, t.2, .int (ts.length : Nat))] := by
  unfold numE
  rw [List.mapIdx_append]
  simp
theorem numE_len (ts : List WT) : (numE ts).length = ts.length := List.length_mapIdx ..
theorem numE_mem {ts : List WT} {e : NE} (h : e ∈ numE ts) : ∃ i t, ts[i]? = some t ∧ e = (t.1, t.2, .int (i : Nat)) := by
  obtain ⟨i, hi, rfl⟩ := List.mem_mapIdx.mp h
  exact ⟨i, ts[i], List.getElem?_eq_getElem hi, rfl⟩
theorem numE_none {ts : List WT} {k : NestedKey} (h : ∀ t ∈ ts, t.1 ≠ k) : getN (numE ts) k = none := by
  rw [getN_none]
  intro e he
  obtain ⟨i, t, ht, rfl⟩ := numE_mem he
  exact h t (List.mem_of_getElem? ht)
theorem numE_some {ts : List WT} {i : Nat} {k : NestedKey} {b : Addr} (nd : (ts.map (·.1)).Nodup) (h : ts[i]? = some (k, b)) : getN (numE ts) k = some (.int (i : Nat)) := by
  cases e : getN (numE ts) k with
  | none =>
    exfalso
    have hi := (List.getElem?_eq_some_iff.mp h).1
    have := getN_none.mp e (k, b, .int (i : Nat)) (List.mem_mapIdx.mpr ⟨i, hi, by rw [List.getElem?_eq_getElem hi] at h; rw [Option.some.inj h]⟩)
    exact this rfl
  | some v =>
    obtain ⟨c, hc⟩ := getN_some e
    obtain ⟨j, t, ht, he⟩ := numE_mem hc
    have e1 : t.1 = k := (Prod.mk.inj he).1.symm
    have e2 : v = .int (j : Nat) := (Prod.mk.inj (Prod.mk.inj he).2).2
    have ij : i = j := by
      have a1 : (ts.map (·.1))[i]? = some k := by rw [List.getElem?_map, h]; rfl
      have a2 : (ts.map (·.1))[j]? = some k := by rw [List.getElem?_map, ht, ← e1]; rfl
      exact (List.getElem?_inj (List.getElem?_eq_some_iff.mp a1).1 nd).mp (a1.trans a2.symm)
    rw [e2, ij]
abbrev WayAt (H : Hp) : List Addr → List (Int × List Int) → Prop := Paired fun q e => ∃ bb, H q = some (.tup [.int e.1, .ref bb]) ∧ H bb = some (.tup (e.2.map V.int))
structure WalkAt (P : Program) (w : World) (C : Addr) (H : Hp) (p M N W : Addr) (ts : List WT) (wy : List (Int × List Int)) : Prop where
  ob : ∃ dx, H p = some (.ins C dx (wF M N W))
  met : H M = some (.lst (ts.map fun t => V.ref t.2))
  num : ND P w H N (numE ts)
  ways : ∃ ws, H W = some (.lst (ws.map V.ref)) ∧ WayAt H ws wy
  nd : (ts.map (·.1)).Nodup
  keys : ∀ t ∈ ts, KeyN H (.ref t.2) t.1
  len : wy.length = ts.length
  nMW : M ≠ W
theorem keyn_stay {H H' : Hp} (t : TupsStay H H') {y : V} {k : NestedKey} (h : KeyN H y k) : KeyN H' y k := ⟨nk_stay t _ _ h.1, h.2⟩
theorem WalkAt.stay {C : Addr} {H H' : Hp} {p M N W : Addr} {ts : List WT} {wy : List (Int × List Int)} (h : WalkAt P w C H p M N W ts wy) (t : TupsStay H H') (k : ∀ c o, (c = p ∨ c = M ∨ c = N ∨ c = W) → H c = some o → H' c = some o) : WalkAt P w C H' p M N W ts wy := by
  obtain ⟨⟨dx, ob⟩, met, num, ⟨ws, e1, e2⟩, nd, keys, len, ne⟩ := h
  exact ⟨⟨dx, k _ _ (.inl rfl) ob⟩, k _ _ (.inr (.inl rfl)) met, nd_stay num (k _ _ (.inr (.inr (.inl rfl))) num.ob) t, ⟨ws, k _ _ (.inr (.inr (.inr rfl))) e1, awMap (fun q e z => z.elim fun bb y => ⟨bb, t _ _ y.1, t _ _ y.2⟩) e2⟩, nd, fun x hx => keyn_stay t (keys x hx), len, ne⟩
theorem WalkAt.same {C : Addr} {H H' : Hp} {p M N W : Addr} {ts : List WT} {wy : List (Int × List Int)} (h : WalkAt P w C H p M N W ts wy) (s : Same H H') : WalkAt P w C H' p M N W ts wy := h.stay (Same.tups s) fun c o _ e => s c o e
def spWi (P : Program) (w : World) (C : Addr) : Sp := fun vs H Q _ => ∃ (p dx b : Addr) (k : NestedKey), vs = [.ref p, .ref b] ∧ H p = some (.ins C dx []) ∧ KeyN H (.ref b) k ∧
  ∀ H' M N W, WalkAt P w C H' p M N W [(k, b)] [(0, [])] → H M = none → H N = none → H W = none → (∀ c o, c ≠ p → H c = some o → H' c = some o) → Q .non H'
theorem ok_wi {f C : Addr} {fd : FuncData} {k : Nat} (F : Fun K "__init__" "Walk.__init__" sWalk___init__ f fd) (T : WCls K mg C) : FnOk P w K mg base CX0 (k + 1) f fd ["self", "first"] (spWi P w C) := by
  refine F.ok scWi (fun vs H Q E h => ?_) (fun cdv A outer s H vs Q E hr h => ?_)
  · obtain ⟨p, dx, b, k, rfl, _⟩ := h
    rfl
  · obtain ⟨p, dx, b, key, rfl, hp, hk, q⟩ := h
    refine ⟨_, pss_cons (ps_fld (pv 0) (pe_lst (pa_cons (pv 1) pa_nil)) rfl)
      (pss_cons (ps_fld (pv 0) (pe_ndisp (P := P) (w := w) rfl rfl hr.units (pv 1) pe_int) rfl)
      (pss_one (ps_fld (pv 0) (pe_lst (pa_cons (pe_tup (pa_cons pe_int (pa_cons (pe_tup pa_nil) pa_nil))) pa_nil)) rfl))), ?_⟩
    refine ⟨.ref b, rfl, by show 1 ≤ sizeLine; decide, fun M hM => ?_⟩
    have sM := same_new (o := .lst [.ref b]) hM
    have npM : p ≠ M := ne_of_none hp hM
    refine ⟨.ref p, rfl, p, C, dx, [], rfl, sM _ _ hp, T.cl, T.nM, (by show 0 < 1000; decide), ?_⟩
    -- the heap with met
    have t1 : TupsStay H (upd (upd H M (.lst [.ref b])) p (.ins C dx (putF "met" (.ref M) []))) := fun c xs e => by
      rw [upd_ne (ne_of e hp (fun z => nomatch z))]
      exact sM _ _ e
    have k1 : ∀ c o, c ≠ p → H c = some o → upd (upd H M (.lst [.ref b])) p (.ins C dx (putF "met" (.ref M) [])) c = some o := fun c o n e => by
      rw [upd_ne n]
      exact sM _ _ e
    have ep1 : upd (upd H M (.lst [.ref b])) p (.ins C dx (putF "met" (.ref M) [])) p = some (.ins C dx (putF "met" (.ref M) [])) := upd_same
    have eM1 : upd (upd H M (.lst [.ref b])) p (.ins C dx (putF "met" (.ref M) [])) M = some (.lst [.ref b]) := by
      rw [upd_ne npM.symm]
      exact upd_same
    generalize upd (upd H M (.lst [.ref b])) p (.ins C dx (putF "met" (.ref M) [])) = H1 at t1 k1 ep1 eM1
    intro N hN
    have sN := same_new (o := NDO P w N []) hN
    have npN : p ≠ N := ne_of_none ep1 hN
    have nMN : M ≠ N := ne_of_none eM1 hN
    refine ⟨.ref b, rfl, b, key, rfl, keyn_stay (t1.trans (Same.tups sN)) hk, upd_same, ?_⟩
    rw [upd_upd]
    have sN2 := same_new (o := NDO P w N [(key, b, .int 0)]) hN
    refine ⟨.ref p, rfl, p, C, dx, _, rfl, sN2 _ _ ep1, T.cl, T.nN, (by show 1 < 1000; decide), ?_⟩
    have k2 : ∀ c o, c ≠ p → H1 c = some o → upd (upd H1 N (NDO P w N [(key, b, .int 0)])) p (.ins C dx (putF "numbers" (.ref N) (putF "met" (.ref M) []))) c = some o := fun c o n e => by
      rw [upd_ne n]
      exact sN2 _ _ e
    have t2 : TupsStay H1 (upd (upd H1 N (NDO P w N [(key, b, .int 0)])) p (.ins C dx (putF "numbers" (.ref N) (putF "met" (.ref M) [])))) := fun c xs e => k2 c _ (ne_of e ep1 (fun z => nomatch z)) e
    have ep2 : upd (upd H1 N (NDO P w N [(key, b, .int 0)])) p (.ins C dx (putF "numbers" (.ref N) (putF "met" (.ref M) []))) p = some (.ins C dx (putF "numbers" (.ref N) (putF "met" (.ref M) []))) := upd_same
    have eN2 : upd (upd H1 N (NDO P w N [(key, b, .int 0)])) p (.ins C dx (putF "numbers" (.ref N) (putF "met" (.ref M) []))) N = some (NDO P w N [(key, b, .int 0)]) := by
      rw [upd_ne npN.symm]
      exact upd_same
    generalize upd (upd H1 N (NDO P w N [(key, b, .int 0)])) p (.ins C dx (putF "numbers" (.ref N) (putF "met" (.ref M) []))) = H2 at k2 t2 ep2 eN2
    have eM2 := k2 _ _ npM.symm eM1
    refine ⟨by show 0 ≤ sizeLine; decide, fun E0 hE0 => ⟨by show 2 ≤ sizeLine; decide, fun T0 hT0 => ⟨by show 1 ≤ sizeLine; decide, fun W hW => ?_⟩⟩⟩
    have s1 := same_new (o := .tup []) hE0
    have s2 := same_new (o := .tup [.int 0, .ref E0]) hT0
    have s3 := same_new (o := .lst [.ref T0]) hW
    have s123 := (s1.trans s2).trans s3
    have npW : p ≠ W := ne_of_none ((s1.trans s2) _ _ ep2) hW
    have nMW : M ≠ W := ne_of_none ((s1.trans s2) _ _ eM2) hW
    have nNW : N ≠ W := ne_of_none ((s1.trans s2) _ _ eN2) hW
    refine ⟨.ref p, rfl, p, C, dx, _, rfl, s123 _ _ ep2, T.cl, T.nW, (by show 2 < 1000; decide), ?_⟩
    have k3 : ∀ c o, c ≠ p → H2 c = some o → upd (upd (upd (upd H2 E0 (.tup [])) T0 (.tup [.int 0, .ref E0])) W (.lst [.ref T0])) p (.ins C dx (putF "ways" (.ref W) (putF "numbers" (.ref N) (putF "met" (.ref M) [])))) c = some o := fun c o n e => by
      rw [upd_ne n]
      exact s123 _ _ e
    have t3 : TupsStay H2 (upd (upd (upd (upd H2 E0 (.tup [])) T0 (.tup [.int 0, .ref E0])) W (.lst [.ref T0])) p (.ins C dx (putF "ways" (.ref W) (putF "numbers" (.ref N) (putF "met" (.ref M) []))))) := fun c xs e => k3 c _ (ne_of e ep2 (fun z => nomatch z)) e
    have tA := (t1.trans t2).trans t3
    refine q _ M N W ⟨⟨dx, upd_same⟩, k3 _ _ npM.symm eM2, ⟨k3 _ _ npN.symm eN2, fun e he => ?_⟩, ⟨[T0], ?_, .cons ⟨E0, ?_, ?_⟩ .nil⟩, by simp, fun x hx => ?_, rfl, nMW⟩ hM ?_ ?_ fun c o n e => k3 c o n (k2 c o n (k1 c o n e))
    · rw [List.mem_singleton.mp he]
      exact ⟨nk_stay tA _ _ hk.1, hk.2.1⟩
    · rw [upd_ne npW.symm]
      exact upd_same
    · have : T0 ≠ p := fun z => by rw [z] at hT0; rw [s1 _ _ ep2] at hT0; cases hT0
      rw [upd_ne this]
      exact s3 _ _ upd_same
    · have : E0 ≠ p := fun z => by rw [z, ep2] at hE0; cases hE0
      rw [upd_ne this]
      exact s3 _ _ (s2 _ _ upd_same)
    · rw [List.mem_singleton.mp hx]
      exact keyn_stay tA hk
    · cases e : H N with
      | none => rfl
      | some o =>
        by_cases z : N = p
        · exact absurd z npN.symm
        · rw [k1 _ _ z e] at hN
          cases hN
    · cases e : H W with
      | none => rfl
      | some o =>
        by_cases z : W = p
        · exact absurd z npW.symm
        · rw [(s1.trans s2) _ _ (k2 _ _ z (k1 _ _ z e))] at hW
          cases hW
def spWm (P : Program) (w : World) (C : Addr) : Sp := fun vs H Q _ => ∃ (p M N W b bb : Addr) (ts : List WT) (wy : List (Int × List Int)) (k : NestedKey) (ah : Int) (bs : List Int), vs = [.ref p, .ref b, .int ah, .ref bb] ∧ WalkAt P w C H p M N W ts wy ∧ KeyN H (.ref b) k ∧ H bb = some (.tup (bs.map V.int)) ∧ ts.length ≤ 1000000 ∧
  ∀ H' ts' wy' i, WalkAt P w C H' p M N W ts' wy' → (∃ b', ts'[i]? = some (k, b')) → ((ts' = ts ∧ wy' = wy) ∨ (ts' = ts ++ [(k, b)] ∧ wy' = wy ++ [(ah, bs)] ∧ i = ts.length ∧ ∀ t ∈ ts, t.1 ≠ k)) → (∀ c o, c ≠ M → c ≠ N → c ≠ W → H c = some o → H' c = some o) → Q (.int (i : Nat)) H'
theorem ok_wm {f C : Addr} {fd : FuncData} {k : Nat} (F : Fun K "meet" "Walk.meet" sWalk_meet f fd) (T : WCls K mg C) (mn : mg "len" = none) : FnOk P w K mg base CX0 (k + 1) f fd ["self", "thing", "ahead", "bits"] (spWm P w C) := by
  refine F.ok scWm (fun vs H Q E h => ?_) (fun cdv A outer s H vs Q E hr h => ?_)
  · obtain ⟨p, M, N, W, b, bb, ts, wy, k, ah, bs, rfl, _⟩ := h
    rfl
  · obtain ⟨p, M, N, W, b, bb, ts, wy, key, ah, bs, rfl, hw, hk, hbb, hl, q⟩ := h
    refine ⟨_, pss_mid (ps_if (pt_cmp (pc_ndnotin (P := P) (w := w) rfl rfl hr.units (pv 1) (pe_fld (pv 0) rfl)))
        (pss_cons (ps_ndput (P := P) (w := w) rfl rfl hr.units (pe_fld (pv 0) rfl) (pv 1) (pe_callB call_len_seq (by rfl) mn PySem.boot_len (pa_cons (pe_fld (pv 0) rfl) pa_nil)) rfl)
        (pss_cons (ps_expr (pe_bm PySem.F.plainAttrs_list PySem.F.slot_list_append PySem.F.type_list_append mt_append (pe_fld (pv 0) rfl) (pa_cons (pv 1) pa_nil)))
        (pss_one (ps_expr (pe_bm PySem.F.plainAttrs_list PySem.F.slot_list_append PySem.F.type_list_append mt_append (pe_fld (pv 0) rfl) (pa_cons (pe_tup (pa_cons (pv 2) (pa_cons (pv 3) pa_nil))) pa_nil)))))) pss_nil)
      (pss_one (ps_ret (pe_ndget (P := P) (w := w) rfl rfl hr.units (pe_fld (pv 0) rfl) (pv 1) (fun _ _ => rfl)))), ?_⟩
    obtain ⟨⟨dx, ob⟩, met, num, ⟨ws, ways, wat⟩, nd, keys, len, nMW⟩ := id hw
    have npM : p ≠ M := ne_of ob met (fun z => nomatch z)
    have npN : p ≠ N := ne_of ob num.ob (fun z => nomatch z)
    have npW : p ≠ W := ne_of ob ways (fun z => nomatch z)
    have nMN : M ≠ N := ne_of met num.ob (fun z => nomatch z)
    have nNW : N ≠ W := ne_of num.ob ways (fun z => nomatch z)
    have sl : (1000000 : Nat) < sizeLine := by rw [sizeLine_eq]; decide
    refine ⟨fun σ2 H2 => ∃ ts' wy' i, σ2 = [some (.ref p), some (.ref b), some (.int ah), some (.ref bb)] ∧ WalkAt P w C H2 p M N W ts' wy' ∧ (∃ b', ts'[i]? = some (key, b')) ∧ ((ts' = ts ∧ wy' = wy) ∨ (ts' = ts ++ [(key, b)] ∧ wy' = wy ++ [(ah, bs)] ∧ i = ts.length ∧ ∀ t ∈ ts, t.1 ≠ key)) ∧ (∀ c o, c ≠ M → c ≠ N → c ≠ W → H c = some o → H2 c = some o), ?_, ?_⟩
    · refine ⟨.ref b, rfl, .ref p, rfl, p, C, dx, _, _, rfl, ob, T.cl, T.nN, wF_num _ _ _, N, _, key, rfl, num, hk, _, rfl, ?_⟩
      cases e : getN (numE ts) key with
      | some v =>
        refine iteF ?_
        obtain ⟨c, hc⟩ := getN_some e
        obtain ⟨i, t, ht, he⟩ := numE_mem hc
        have e1 : t.1 = key := (Prod.mk.inj he).1.symm
        exact ⟨ts, wy, i, rfl, hw, ⟨t.2, by rw [ht, ← e1]⟩, .inl ⟨rfl, rfl⟩, fun c o _ _ _ z => z⟩
      | none =>
        refine iteT ?_
        have fresh : ∀ t ∈ ts, t.1 ≠ key := fun t ht z => by
          obtain ⟨i, hi⟩ := List.mem_iff_getElem?.mp ht
          have : ts[i]? = some (key, t.2) := by rw [hi, ← z]
          rw [numE_some nd this] at e
          cases e
        have nl : (numE ts).length < sizeLine := by rw [numE_len]; omega
        refine ⟨.ref p, rfl, p, C, dx, _, _, rfl, ob, T.cl, T.nM, wF_met _ _ _, M, _, rfl, .inl (.inl (.inl met)), .ref p, rfl, p, C, dx, _, _, rfl, ob, T.cl, T.nN, wF_num _ _ _, .ref b, rfl, N, _, key, b, rfl, num, rfl, hk, e, nl, ?_⟩
        have ml : ((ts.map fun t => V.ref t.2).length : Int) = ((ts.length : Nat) : Int) := by rw [List.length_map]
        rw [ml]
        have num1 := nd_put (v := .int ((ts.length : Nat) : Int)) num hk
        rw [← numE_snoc ts (key, b)] at num1 ⊢
        have k1 : ∀ c o, c ≠ N → H c = some o → upd H N (NDO P w N (numE (ts ++ [(key, b)]))) c = some o := fun c o n z => by
          rw [upd_ne n]
          exact z
        have t1 : TupsStay H (upd H N (NDO P w N (numE (ts ++ [(key, b)])))) := fun c xs z => k1 c _ (ne_of z num.ob (fun y => nomatch y)) z
        generalize upd H N (NDO P w N (numE (ts ++ [(key, b)]))) = H1 at num1 k1 t1
        have ob1 := k1 _ _ npN ob
        have met1 := k1 _ _ nMN met
        refine ⟨.ref p, rfl, p, C, dx, _, _, rfl, ob1, T.cl, T.nM, wF_met _ _ _, .inl ⟨rfl, _, .inl (.inl met1)⟩, .ref b, rfl, M, _, _, rfl, rfl, met1, ?_, ?_⟩
        · rw [List.length_map]
          omega
        have e2 : (ts.map fun t => V.ref t.2) ++ [V.ref b] = (ts ++ [(key, b)]).map fun t => V.ref t.2 := by rw [List.map_append]; rfl
        rw [e2]
        have k2 : ∀ c o, c ≠ M → H1 c = some o → upd H1 M (.lst ((ts ++ [(key, b)]).map fun t => V.ref t.2)) c = some o := fun c o n z => by
          rw [upd_ne n]
          exact z
        have t2 : TupsStay H1 (upd H1 M (.lst ((ts ++ [(key, b)]).map fun t => V.ref t.2))) := fun c xs z => k2 c _ (ne_of z met1 (fun y => nomatch y)) z
        have met2 : upd H1 M (.lst ((ts ++ [(key, b)]).map fun t => V.ref t.2)) M = some (.lst ((ts ++ [(key, b)]).map fun t => V.ref t.2)) := upd_same
        generalize upd H1 M (.lst ((ts ++ [(key, b)]).map fun t => V.ref t.2)) = H2 at k2 t2 met2
        have ob2 := k2 _ _ npM ob1
        have ways2 := k2 _ _ nMW.symm (k1 _ _ nNW.symm ways)
        refine ⟨.ref p, rfl, p, C, dx, _, _, rfl, ob2, T.cl, T.nW, wF_ways _ _ _, .inl ⟨rfl, _, .inl (.inl ways2)⟩, .int ah, rfl, .ref bb, rfl, by show 2 ≤ sizeLine; decide, fun U hU => ?_⟩
        have sU := same_new (o := .tup [.int ah, .ref bb]) hU
        have wl := awLen wat
        refine ⟨W, _, _, rfl, rfl, sU _ _ ways2, ?_, ?_⟩
        · rw [List.length_map]
          omega
        have e3 : ws.map V.ref ++ [V.ref U] = (ws ++ [U]).map V.ref := by rw [List.map_append]; rfl
        rw [e3]
        have k3 : ∀ c o, c ≠ W → H2 c = some o → upd (upd H2 U (.tup [.int ah, .ref bb])) W (.lst ((ws ++ [U]).map V.ref)) c = some o := fun c o n z => by
          rw [upd_ne n]
          exact sU _ _ z
        have t3 : TupsStay H2 (upd (upd H2 U (.tup [.int ah, .ref bb])) W (.lst ((ws ++ [U]).map V.ref))) := fun c xs z => k3 c _ (ne_of z ways2 (fun y => nomatch y)) z
        have tA := (t1.trans t2).trans t3
        have nUW : U ≠ W := fun z => by rw [z, ways2] at hU; cases hU
        have eU3 : upd (upd H2 U (.tup [.int ah, .ref bb])) W (.lst ((ws ++ [U]).map V.ref)) U = some (.tup [.int ah, .ref bb]) := by
          rw [upd_ne nUW]
          exact upd_same
        have eW3 : upd (upd H2 U (.tup [.int ah, .ref bb])) W (.lst ((ws ++ [U]).map V.ref)) W = some (.lst ((ws ++ [U]).map V.ref)) := upd_same
        generalize upd (upd H2 U (.tup [.int ah, .ref bb])) W (.lst ((ws ++ [U]).map V.ref)) = H3 at k3 t3 tA eU3 eW3
        refine ⟨ts ++ [(key, b)], wy ++ [(ah, bs)], ts.length, rfl, ⟨⟨dx, k3 _ _ npW ob2⟩, k3 _ _ nMW met2, nd_stay num1 (k3 _ _ nNW (k2 _ _ nMN.symm num1.ob)) (t2.trans t3), ⟨ws ++ [U], eW3, ?_⟩, ?_, fun x hx => ?_, ?_, nMW⟩, ⟨b, ?_⟩, .inr ⟨rfl, rfl, rfl, fresh⟩, fun c o n1 n2 n3 z => k3 _ _ n3 (k2 _ _ n1 (k1 _ _ n2 z))⟩
        · exact awSnoc (F := fun (q : Addr) (e : Int × List Int) => ∃ bb, H3 q = some (.tup [.int e.1, .ref bb]) ∧ H3 bb = some (.tup (e.2.map V.int))) ⟨bb, eU3, tA _ _ hbb⟩ (awMap (fun q e z => z.elim fun bb y => ⟨bb, tA _ _ y.1, tA _ _ y.2⟩) wat)
        · rw [List.map_append, List.nodup_append]
          refine ⟨nd, by simp, fun x hx y hy => ?_⟩
          obtain ⟨t, ht, rfl⟩ := List.mem_map.mp hx
          rw [List.mem_singleton.mp hy]
          exact fresh t ht
        · rcases List.mem_append.mp hx with hx | hx
          · exact keyn_stay tA (keys x hx)
          · rw [List.mem_singleton.mp hx]
            exact keyn_stay tA hk
        · rw [List.length_append, List.length_append, len]
          rfl
        · rw [List.getElem?_append_right (Nat.le_refl _), Nat.sub_self]
          rfl
    · rintro σ2 H2 ⟨ts', wy', i, rfl, hw2, ⟨b', hb'⟩, hcase, kp⟩
      obtain ⟨⟨dx2, ob2⟩, _, num2, _, nd2, _⟩ := id hw2
      have tS : TupsStay H H2 := fun c xs z => kp c _ (ne_of z met (fun y => nomatch y)) (ne_of z num.ob (fun y => nomatch y)) (ne_of z ways (fun y => nomatch y)) z
      exact ⟨.ref p, rfl, p, C, dx2, _, _, rfl, ob2, T.cl, T.nN, wF_num _ _ _, .ref b, rfl, N, _, key, .int (i : Nat), rfl, num2, keyn_stay tS hk, numE_some nd2 hb', q H2 ts' wy' i hw2 ⟨b', hb'⟩ hcase kp⟩
/-! ### list(zip(a, b)) of two lists -/
section lz
variable {A : Around} {E : Value → Shared → Prop} {s : Shared}
abbrev IsZ (h : Heap) (z TI TO : Addr) (f0 : Value) (b : Bool) : Prop := h.get? z = some { cls := .type "zip", dict := none, data := .fields #[f0, .bool b, .bool false, .ref TI, .ref TO], slots := #[] }
theorem z_free {z TI TO T : Addr} {f : Bool} {oT : Obj} {Q : Bool → Shared → Prop} (hz : IsZ s.heap z TI TO (rawInt T) f) (hT : s.heap.get? T = some oT) (q : ∀ h', IsZ h' z TI TO (rawInt T) true → Heap.SameBut z s.heap h' → Q false { s with heap := h' }) :
    wpAny (model P w) A (Builtin.SmallTypes.ownedTupleIsFree (.ref z)) Q E s := by
  unfold Builtin.SmallTypes.ownedTupleIsFree
  apply wpAny_bind
  refine wpAny_field hz rfl (x := rawInt T) rfl ?_
  show wpAny _ _ (loadIfAlive ((T : Int).toNat) >>= _) _ _ _
  rw [Int.toNat_natCast]
  apply wpAny_bind
  refine PySem.W.kdx_alive hT ?_
  simp only [Option.isNone_some, Bool.false_eq_true, if_false]
  apply wpAny_bind
  refine wpAny_field hz rfl (x := .bool f) rfl ?_
  cases f with
  | true =>
    rw [if_neg (show ¬ ((Value.bool true != Value.bool true) = true) from Bool.false_ne_true)]
    exact wpAny_pure (q s.heap hz (Heap.SameBut.refl _ _))
  | false =>
    rw [if_pos (show (Value.bool false != Value.bool true) = true from rfl)]
    apply wpAny_bind
    exact wpAny_setField_rec hz (by simp) fun h' hz' hs' => wpAny_pure (q h' hz' hs')
theorem z_next_out {z TI TO i1 i2 l1 l2 T : Addr} {k1 k2 : Nat} {xs ys : Array Value} {x y : Value} {f : Bool} {oT : Obj} {Q : Value → Shared → Prop} (D : ZipApart z TI TO i1 i2 l1 l2) (hz : IsZ s.heap z TI TO (rawInt T) f) (hT : s.heap.get? T = some oT)
    (hTI : IsPair s.heap TI (.ref i1) (.ref i2)) (h1 : s.heap.IsListIter i1 l1 k1) (h2 : s.heap.IsListIter i2 l2 k2) (hl1 : s.heap.IsList l1 xs) (hl2 : s.heap.IsList l2 ys) (hx : xs[k1]? = some x) (hy : ys[k2]? = some y)
    (q : ∀ h', IsZ h' z TI TO (rawInt T) true → h'.IsListIter i1 l1 (k1 + 1) → h'.IsListIter i2 l2 (k2 + 1) → IsPair h' s.heap.objs.size x y → h'.objs.size = s.heap.objs.size + 1 → (∀ c o, c ≠ z → c ≠ i1 → c ≠ i2 → s.heap.get? c = some o → h'.get? c = some o) → Q (.ref s.heap.objs.size) { s with heap := h' }) :
    wpAny (model P w) A (Builtin.«zip.__next__» ⟨[.ref z], []⟩) (fun fin s' => ∃ v, fin = .done (.ret v) ∧ Q v s') E s := by
  show wpAny _ _ (field (.ref z) 2 >>= _) _ _ _
  apply wpAny_bind
  refine wpAny_field hz rfl (x := .bool false) rfl ?_
  show wpAny _ _ (field (.ref z) 3 >>= _) _ _ _
  apply wpAny_bind
  refine wpAny_field hz rfl (x := .ref TI) rfl ?_
  apply wpAny_bind
  refine wpAny_seqItems hTI rfl ?_
  show wpAny _ _ (Builtin.SmallTypes.ownedTupleIsFree (.ref z) >>= _) _ _ _
  apply wpAny_bind
  refine z_free hz hT fun h₁ hz₁ hs₁ => ?_
  simp only [Bool.false_eq_true, if_false]
  apply wpAny_bind
  simp only [← Array.forIn_toList, List.forIn_cons, List.forIn_nil]
  apply wpAny_bind
  apply wpAny_bind
  apply wpAny_holding
  show wpAny _ _ (Builtin.SmallTypes.nextOf (.ref i1) >>= _) _ _ _
  apply wpAny_bind
  refine wpAny_nextOf_list_item (h1.extBut hs₁.extBut D.i1z) (hl1.extBut hs₁.extBut D.l1z) hx fun h₂ h1₂ hs₂ => wpAny_pure ?_
  refine wpAny_pure ?_
  apply wpAny_bind
  apply wpAny_bind
  apply wpAny_holding
  show wpAny _ _ (Builtin.SmallTypes.nextOf (.ref i2) >>= _) _ _ _
  apply wpAny_bind
  refine wpAny_nextOf_list_item ((h2.extBut hs₁.extBut D.i2z).extBut hs₂.extBut D.i12.symm) ((hl2.extBut hs₁.extBut D.l2z).extBut hs₂.extBut D.l2i1) hy fun h₃ h2₃ hs₃ => wpAny_pure ?_
  refine wpAny_pure (wpAny_pure ?_)
  have hsz : h₃.objs.size = s.heap.objs.size := by rw [hs₃.1, hs₂.1, hs₁.1]
  apply wpAny_bind
  refine wpAny_newTuple ?_ (by show 2 ≤ sizeLine; decide)
  have z3 : IsZ h₃ z TI TO (rawInt T) true := hs₃.extBut _ _ D.i2z.symm (hs₂.extBut _ _ D.i1z.symm hz₁)
  refine wpAny_pure ⟨_, rfl, ?_⟩
  show Q (.ref h₃.objs.size) _
  rw [hsz]
  refine q _ (Heap.get?_push_of_some _ z3) ((h1₂.extBut hs₃.extBut D.i12).at fun o e => Heap.get?_push_of_some _ e) (h2₃.at fun o e => Heap.get?_push_of_some _ e) ?_ ?_ fun c o c1 c2 c3 e => Heap.get?_push_of_some _ (hs₃.extBut _ _ c3 (hs₂.extBut _ _ c2 (hs₁.extBut _ _ c1 e)))
  · rw [← hsz]
    exact Heap.get?_push_size _ rfl
  · rw [Heap.size_push, hsz]
theorem z_pyNext_out {z TI TO i1 i2 l1 l2 T : Addr} {k1 k2 : Nat} {xs ys : Array Value} {x y : Value} {f : Bool} {oT : Obj} {Q : Option Value → Shared → Prop} (D : ZipApart z TI TO i1 i2 l1 l2) (hz : IsZ s.heap z TI TO (rawInt T) f) (hT : s.heap.get? T = some oT)
    (hTI : IsPair s.heap TI (.ref i1) (.ref i2)) (h1 : s.heap.IsListIter i1 l1 k1) (h2 : s.heap.IsListIter i2 l2 k2) (hl1 : s.heap.IsList l1 xs) (hl2 : s.heap.IsList l2 ys) (hx : xs[k1]? = some x) (hy : ys[k2]? = some y)
    (q : ∀ h', IsZ h' z TI TO (rawInt T) true → h'.IsListIter i1 l1 (k1 + 1) → h'.IsListIter i2 l2 (k2 + 1) → IsPair h' s.heap.objs.size x y → h'.objs.size = s.heap.objs.size + 1 → (∀ c o, c ≠ z → c ≠ i1 → c ≠ i2 → s.heap.get? c = some o → h'.get? c = some o) → Q (some (.ref s.heap.objs.size)) { s with heap := h' }) :
    wpAny (model P w) A (pyNext (.ref z)) Q E s := by
  have ty : s.TypeIs (.ref z) "zip" := ⟨_, hz, rfl⟩
  unfold pyNext
  apply wpAny_bind
  apply wpAny_attempt
  refine wpAny_callSpecial?_slot (name := Str.ofString "__next__") ty F.slot_zip_next ?_
  refine wpAny_call_entry F.slot_zip_next ty F.entry_zip_next ?_ (F.args_zip_next_1 _)
  exact z_next_out D hz hT hTI h1 h2 hl1 hl2 hx hy fun h' a1 a2 a3 a4 a5 a6 => wpAny_pure (q h' a1 a2 a3 a4 a5 a6)
theorem z_end_out {z TI TO i1 i2 l1 l2 T : Addr} {k1 : Nat} {xs : Array Value} {f : Bool} {oT : Obj} {Q : Option Value → Shared → Prop} (hh : A.handled = none) (D : ZipApart z TI TO i1 i2 l1 l2) (hz : IsZ s.heap z TI TO (rawInt T) f) (hT : s.heap.get? T = some oT)
    (hTI : IsPair s.heap TI (.ref i1) (.ref i2)) (h1 : s.heap.IsListIter i1 l1 k1) (hl1 : s.heap.IsList l1 xs) (hx : xs[k1]? = none)
    (q : ∀ h', (∀ c o, c ≠ z → c ≠ i1 → s.heap.get? c = some o → h'.get? c = some o) → Q none { s with heap := h' }) :
    wpAny (model P w) A (pyNext (.ref z)) Q E s := by
  have ty : s.TypeIs (.ref z) "zip" := ⟨_, hz, rfl⟩
  unfold pyNext
  apply wpAny_bind
  apply wpAny_attempt
  refine wpAny_callSpecial?_slot (name := Str.ofString "__next__") ty F.slot_zip_next ?_
  refine wpAny_call_entry F.slot_zip_next ty F.entry_zip_next ?_ (F.args_zip_next_1 _)
  show wpAny _ _ (field (.ref z) 2 >>= _) _ _ _
  apply wpAny_bind
  refine wpAny_field hz rfl (x := .bool false) rfl ?_
  show wpAny _ _ (field (.ref z) 3 >>= _) _ _ _
  apply wpAny_bind
  refine wpAny_field hz rfl (x := .ref TI) rfl ?_
  apply wpAny_bind
  refine wpAny_seqItems hTI rfl ?_
  show wpAny _ _ (Builtin.SmallTypes.ownedTupleIsFree (.ref z) >>= _) _ _ _
  apply wpAny_bind
  refine z_free hz hT fun h₁ hz₁ hs₁ => ?_
  simp only [Bool.false_eq_true, if_false]
  apply wpAny_bind
  simp only [← Array.forIn_toList, List.forIn_cons, List.forIn_nil]
  apply wpAny_bind
  apply wpAny_bind
  apply wpAny_holding
  show wpAny _ _ (Builtin.SmallTypes.nextOf (.ref i1) >>= _) _ _ _
  apply wpAny_bind
  refine wpAny_nextOf_list_end hh (h1.extBut hs₁.extBut D.i1z) (hl1.extBut hs₁.extBut D.l1z) hx fun h₂ e hs₂ he => ?_
  obtain ⟨o, ho, hc⟩ := he
  apply wpAny_bind
  refine wpAny_isInstance (T := "StopIteration") (b := true) ⟨o, ho, hc⟩ isSubtype_stop ?_
  exact wpAny_pure (q h₂ fun c o c1 c2 e => hs₂ c o c2 (hs₁.extBut c o c1 e))
/-- the pairs that were made -/
structure MadeZ (xs ys : Array Value) (lo : Addr) (h : Heap) (as : List Addr) : Prop where
  rise : as.Pairwise (· < ·)
  above : ∀ a ∈ as, lo < a
  pairs : ∀ (j : Nat) a, as[j]? = some a → ∃ x y, xs[j]? = some x ∧ ys[j]? = some y ∧ IsPair h a x y
/-- where the zip stands -/
def ZAt (h : Heap) (z TI TO i1 i2 : Addr) (l1 l2 : Addr) (i : Nat) (as : List Addr) : Prop := IsPair h TI (.ref i1) (.ref i2) ∧ (∃ a b, IsPair h TO a b) ∧ h.IsListIter i1 l1 i ∧ h.IsListIter i2 l2 i ∧
  ((i = 0 ∧ IsZ h z TI TO .none false) ∨ ∃ T f, T ∈ as ∧ IsZ h z TI TO (rawInt T) f)
theorem z_loop {S z TI TO i1 i2 l1 l2 : Addr} {xs ys : Array Value} (hh : A.handled = none) (D : ZipApart z TI TO i1 i2 l1 l2) (hxy : xs.size = ys.size) (hSz : S ≠ z) (hSI : S ≠ TI) (hSO : S ≠ TO) (hS1 : S ≠ i1) (hS2 : S ≠ i2) (hSa : S ≠ l1) (hSb : S ≠ l2)
    (lo : Addr) (hlo : z ≤ lo ∧ TI ≤ lo ∧ TO ≤ lo ∧ i1 ≤ lo ∧ i2 ≤ lo ∧ S ≤ lo) (hn : xs.size ≤ sizeLine) (res : Value) {h₁ : Heap} {R : Result → Shared → Prop}
    (hR : ∀ h' tk acc c as, (∀ b o, b ≠ S → b ≠ z → b ≠ TO → b ≠ i1 → b ≠ i2 → h₁.get? b = some o → h'.get? b = some o) → h'.get? S = some { cls := .type "list", dict := none, data := .seq acc c, slots := #[] } → as.length = xs.size → MadeZ xs ys lo h' as →
      acc.toList = as.map Value.ref → R (.ok (.ret res)) { s with heap := h', toks := tk }) :
    ∀ (k i : Nat) (h : Heap) (tk c : Nat) (acc : Array Value) (as : List Addr), xs.size - i = k → i ≤ xs.size → ZAt h z TI TO i1 i2 l1 l2 i as → h.IsList l1 xs → h.IsList l2 ys → (∀ b o, b ≠ S → b ≠ z → b ≠ TO → b ≠ i1 → b ≠ i2 → h₁.get? b = some o → h.get? b = some o) →
      h.get? S = some { cls := .type "list", dict := none, data := .seq acc c, slots := #[] } → acc.toList = as.map Value.ref → as.length = i → MadeZ xs ys lo h as → lo < h.objs.size →
      codeAny (model P w) A (.builtin "list.extend.loop" ⟨[.ref S, .ref z, res], []⟩) R { s with heap := h, toks := tk } := by
  have far : ∀ u : Addr, lo < u → u ≠ z ∧ u ≠ TO ∧ u ≠ i1 ∧ u ≠ i2 ∧ u ≠ S := fun u hu => ⟨Nat.ne_of_gt (Nat.lt_of_le_of_lt hlo.1 hu), Nat.ne_of_gt (Nat.lt_of_le_of_lt hlo.2.2.1 hu), Nat.ne_of_gt (Nat.lt_of_le_of_lt hlo.2.2.2.1 hu), Nat.ne_of_gt (Nat.lt_of_le_of_lt hlo.2.2.2.2.1 hu), Nat.ne_of_gt (Nat.lt_of_le_of_lt hlo.2.2.2.2.2 hu)⟩
  intro k
  induction k with
  | zero =>
    intro i h tk c acc as hk hi hz hl1 hl2 keep hS hacc hal hG hls
    obtain ⟨hTI, ⟨a, b, hTO⟩, g1, g2, st⟩ := hz
    have xe : xs[i]? = none := Array.getElem?_eq_none (by omega)
    have fin : ∀ h', (∀ c o, c ≠ z → c ≠ TO → c ≠ i1 → c ≠ i2 → h.get? c = some o → h'.get? c = some o) → R (.ok (.ret res)) { s with heap := h', toks := tk } := fun h' kp => by
      refine hR h' tk acc c as (fun b o n1 n2 n3 n4 n5 e => kp b o n2 n3 n4 n5 (keep b o n1 n2 n3 n4 n5 e)) (kp S _ hSz hSO hS1 hS2 hS) (by omega) ⟨hG.rise, hG.above, fun j a hj => ?_⟩ hacc
      obtain ⟨x, y, e1, e2, e3⟩ := hG.pairs j a hj
      obtain ⟨f1, f2, f3, f4, _⟩ := far a (hG.above a (List.mem_of_getElem? hj))
      exact ⟨x, y, e1, e2, kp a _ f1 f2 f3 f4 e3⟩
    refine codeAny_builtin F.entry_extend_loop ?_
    rw [Around.under_plainId F.plain_extend_loop _]
    show wpAny _ A.in1 (pyNext (.ref z) >>= _) _ _ _
    apply wpAny_bind
    rcases st with ⟨rfl, hz0⟩ | ⟨T, f, hT, hz1⟩
    · exact wpAny_pyNext_zip_end (s := { s with heap := h, toks := tk }) (A := A.in1) hh D hz0 hTI hTO g1 g2 hl1 hl2 (.inl xe) fun h' kp => wpAny_pure (fin h' kp)
    · obtain ⟨j, hj⟩ := List.mem_iff_getElem?.mp hT
      obtain ⟨x, y, _, _, e3⟩ := hG.pairs j T hj
      exact z_end_out (s := { s with heap := h, toks := tk }) (A := A.in1) hh D hz1 e3 hTI g1 hl1 xe fun h' kp => wpAny_pure (fin h' fun c o n1 _ n3 _ e => kp c o n1 n3 e)
  | succ k ih =>
    intro i h tk c acc as hk hi hz hl1 hl2 keep hS hacc hal hG hls
    obtain ⟨hTI, ⟨a, b, hTO⟩, g1, g2, st⟩ := hz
    have hlt : i < xs.size := by omega
    have hx := Array.getElem?_eq_getElem hlt
    have hy := Array.getElem?_eq_getElem (show i < ys.size by omega)
    have hsz : acc.size = i := by rw [← Array.length_toList, hacc, List.length_map, hal]
    have hSl : S < h.objs.size := Heap.lt_size hS
    refine codeAny_builtin F.entry_extend_loop ?_
    rw [Around.under_plainId F.plain_extend_loop _]
    show wpAny _ A.in1 (pyNext (.ref z) >>= _) _ _ _
    apply wpAny_bind
    -- one more pair
    have more : ∀ (h' : Heap) (f : Bool) (T : Addr), T ∈ as ++ [h.objs.size] → IsZ h' z TI TO (rawInt T) f → (∃ a b, IsPair h' TO a b) → h'.IsListIter i1 l1 (i + 1) → h'.IsListIter i2 l2 (i + 1) → IsPair h' h.objs.size xs[i] (ys[i]'(by omega)) → h'.objs.size = h.objs.size + 1 →
        (∀ c o, c ≠ z → c ≠ TO → c ≠ i1 → c ≠ i2 → h.get? c = some o → h'.get? c = some o) →
        wpAny (model P w) A.in1 (updateSeq S (·.push (Value.ref h.objs.size)) >>= fun _ => again (.builtin "list.extend.loop" ⟨[.ref S, .ref z, res], []⟩)) (fun fin s' => match fin with | .done f => R (.ok f) s' | .again c' => c'.quiet = true ∧ codeAny (model P w) A c' R s') (fun e s' => R (.error e) s') { s with heap := h', toks := tk } := by
      intro h' f T hT hz' hTO' g1' g2' hp hsz' kp
      have hS' := kp S _ hSz hSO hS1 hS2 hS
      have up : ∀ b o, b ≠ S → h'.get? b = some o → (h'.update S (Obj.mapSeq (·.push (Value.ref h.objs.size)))).get? b = some o := fun b o hb e => (Heap.get?_update_other _ _ (Ne.symm hb)).trans e
      apply wpAny_bind
      refine wpAny_updateSeq hS' rfl (wpAny_pure ⟨plainId_quiet F.plain_extend_loop _, ?_⟩) (by rw [hsz]; omega) (by show (acc.push (Value.ref h.objs.size)).size ≤ sizeLine + 1; rw [Array.size_push, hsz]; omega)
      refine ih (i + 1) _ tk _ (acc.push (Value.ref h.objs.size)) (as ++ [h.objs.size]) (by omega) hlt ?_ ?_ ?_ (fun b o n1 n2 n3 n4 n5 e => up b o n1 (kp b o n2 n3 n4 n5 (keep b o n1 n2 n3 n4 n5 e))) (Heap.get?_update_self _ hS' rfl) (by rw [Array.toList_push, hacc, List.map_append]; rfl) (by rw [List.length_append, hal]; rfl) ⟨?_, ?_, ?_⟩ ?_
      · obtain ⟨p, q, hpq⟩ := hTO'
        exact ⟨up _ _ hSI.symm (kp _ _ D.TIz D.TITO D.TIi1 D.TIi2 hTI), ⟨p, q, up _ _ hSO.symm hpq⟩, g1'.at fun o e => up _ o hS1.symm e, g2'.at fun o e => up _ o hS2.symm e, .inr ⟨T, f, hT, up _ _ hSz.symm hz'⟩⟩
      · exact hl1.at fun o e => up _ o hSa.symm (kp _ o D.l1z D.l1TO D.l1i1 D.l1i2 e)
      · exact hl2.at fun o e => up _ o hSb.symm (kp _ o D.l2z D.l2TO D.l2i1 D.l2i2 e)
      · refine List.pairwise_append.mpr ⟨hG.rise, List.pairwise_singleton _ _, fun u hu v hv => ?_⟩
        rw [List.mem_singleton.mp hv]
        obtain ⟨j, hj⟩ := List.mem_iff_getElem?.mp hu
        obtain ⟨_, _, _, _, e3⟩ := hG.pairs j u hj
        exact Heap.lt_size e3
      · intro u hu
        rcases List.mem_append.mp hu with hu | hu
        · exact hG.above u hu
        · rw [List.mem_singleton.mp hu]
          exact hls
      · intro j u hj
        by_cases hjl : j < as.length
        · rw [List.getElem?_append_left hjl] at hj
          obtain ⟨x, y, e1, e2, e3⟩ := hG.pairs j u hj
          obtain ⟨f1, f2, f3, f4, f5⟩ := far u (hG.above u (List.mem_of_getElem? hj))
          exact ⟨x, y, e1, e2, up u _ f5 (kp u _ f1 f2 f3 f4 e3)⟩
        · rw [List.getElem?_append_right (by omega)] at hj
          have hj2 := (List.getElem?_eq_some_iff.mp hj).1
          have ej : j = as.length := by
            simp only [List.length_cons, List.length_nil] at hj2
            omega
          subst ej
          rw [Nat.sub_self] at hj
          obtain rfl := Option.some.inj hj
          subst hal
          exact ⟨_, _, hx, hy, up _ _ (Nat.ne_of_gt hSl) hp⟩
      · have e := up _ _ (Nat.ne_of_gt hSl) hp
        exact Nat.lt_trans hls (Heap.lt_size e)
    rcases st with ⟨rfl, hz0⟩ | ⟨T, f, hT, hz1⟩
    · refine wpAny_pyNext_zip_item (s := { s with heap := h, toks := tk }) (A := A.in1) D hz0 hTI hTO g1 g2 hl1 hl2 hx hy fun h' b1 b2 b3 b4 b5 b6 b7 => ?_
      exact more h' false h.objs.size (List.mem_append_right _ List.mem_cons_self) b1 ⟨_, _, b2⟩ b3 b4 b5 b6 b7
    · obtain ⟨j, hj⟩ := List.mem_iff_getElem?.mp hT
      obtain ⟨x, y, _, _, e3⟩ := hG.pairs j T hj
      refine z_pyNext_out (s := { s with heap := h, toks := tk }) (A := A.in1) D hz1 e3 hTI g1 g2 hl1 hl2 hx hy fun h' b1 b2 b3 b4 b5 b6 => ?_
      exact more h' true T (List.mem_append_left _ hT) b1 ⟨_, _, b6 _ _ D.TOz D.TOi1 D.TOi2 hTO⟩ b2 b3 b4 b5 fun c o n1 _ n3 n4 e => b6 c o n1 n3 n4 e
theorem z_nolen : typeLookup (.type "zip") "__len__" = pure none := by
  rw [typeLookup_type, builtinLookup_eq_fast]
  kernel_rfl
theorem z_nohint : typeLookup (.type "zip") "__length_hint__" = pure none := by
  rw [typeLookup_type, builtinLookup_eq_fast]
  kernel_rfl
theorem z_hint {z : Addr} {Q : Bool → Shared → Prop} (hT : s.TypeIs (.ref z) "zip") (q : Q true s) : wpAny (model P w) A (Builtin.List.listLengthHint (.ref z)) Q E s := by
  unfold Builtin.List.listLengthHint
  apply wpAny_bind
  refine wpAny_specialOf hT z_nolen ?_
  refine wpAny_ite_split (fun h => absurd h (by decide)) (fun _ => ?_)
  refine wpAny_ite_split (fun h => absurd h (by decide)) (fun _ => ?_)
  apply wpAny_bind
  refine wpAny_specialOf hT z_nohint ?_
  exact wpAny_pure q
theorem z_extend {S z TI TO i1 i2 l1 l2 : Addr} {xs ys : Array Value} (hh : A.handled = none) (D : ZipApart z TI TO i1 i2 l1 l2) (hxy : xs.size = ys.size) (hSz : S ≠ z) (hSI : S ≠ TI) (hSO : S ≠ TO) (hS1 : S ≠ i1) (hS2 : S ≠ i2) (hSa : S ≠ l1) (hSb : S ≠ l2)
    (lo : Addr) (hlo : z ≤ lo ∧ TI ≤ lo ∧ TO ≤ lo ∧ i1 ≤ lo ∧ i2 ≤ lo ∧ S ≤ lo) (hls : lo < s.heap.objs.size) (hn : xs.size ≤ sizeLine) (res : Value) {R : Result → Shared → Prop} {c₀ : Nat}
    (hz : ZAt s.heap z TI TO i1 i2 l1 l2 0 []) (hz0 : IsZ s.heap z TI TO .none false) (hl1 : s.heap.IsList l1 xs) (hl2 : s.heap.IsList l2 ys) (hS : s.heap.get? S = some { cls := .type "list", data := .seq #[] c₀ })
    (hR : ∀ h' tk acc c as, (∀ b o, b ≠ S → b ≠ z → b ≠ TO → b ≠ i1 → b ≠ i2 → s.heap.get? b = some o → h'.get? b = some o) → h'.get? S = some { cls := .type "list", dict := none, data := .seq acc c, slots := #[] } → as.length = xs.size → MadeZ xs ys lo h' as →
      acc.toList = as.map Value.ref → R (.ok (.ret res)) { s with heap := h', toks := tk }) :
    wpAny (model P w) A.in1 (Builtin.List.listExtendWith (.ref S) (.ref z) res)
      (fun fin s' => match fin with | .done f => R (.ok f) s' | .again c' => c'.quiet = true ∧ codeAny (model P w) A c' R s') (fun e s' => R (.error e) s') s := by
  have ty : s.TypeIs (.ref z) "zip" := ⟨_, hz0, rfl⟩
  have go : ∀ (h : Heap) (c₁ tk : Nat), (∀ b o, b ≠ S → s.heap.get? b = some o → h.get? b = some o) → lo < h.objs.size → h.get? S = some { cls := .type "list", data := .seq #[] c₁ } →
      codeAny (model P w) A (.builtin "list.extend.loop" ⟨[.ref S, .ref z, res], []⟩) R { s with heap := h, toks := tk } := by
    intro h c₁ tk kp hl hS₁
    obtain ⟨hTI, ⟨a, b, hTO⟩, g1, g2, _⟩ := hz
    refine z_loop (s := s) (h₁ := s.heap) hh D hxy hSz hSI hSO hS1 hS2 hSa hSb lo hlo hn res hR xs.size 0 h tk c₁ #[] [] (Nat.sub_zero _) (Nat.zero_le _) ?_ (hl1.at fun o e => kp _ o hSa.symm e) (hl2.at fun o e => kp _ o hSb.symm e) (fun b o n1 _ _ _ _ e => kp b o n1 e) hS₁ rfl rfl ⟨List.Pairwise.nil, (fun _ z => nomatch z), (fun j a hj => by simp at hj)⟩ hl
    exact ⟨kp _ _ hSI.symm hTI, ⟨a, b, kp _ _ hSO.symm hTO⟩, g1.at fun o e => kp _ o hS1.symm e, g2.at fun o e => kp _ o hS2.symm e, .inl ⟨rfl, kp _ _ hSz.symm hz0⟩⟩
  unfold Builtin.List.listExtendWith
  apply wpAny_bind
  refine wpAny_typeOf (T := "zip") ty ?_
  have e1 : Builtin.List.listSameRef (.ref S) (.ref z) = false := by simp [Builtin.List.listSameRef, hSz]
  have e2 : (Value.type "zip" == Value.type "list") = false := by decide
  have e3 : (Value.type "zip" == Value.type "tuple") = false := by decide
  simp only [e1, e2, e3, Bool.or_false, Bool.false_eq_true, if_false]
  apply wpAny_bind
  refine wpAny_pyIter_slot ty F.slot_zip_iter ?_
  refine wpAny_call_entry F.slot_zip_iter ty F.entry_zip_iter ?_ (F.args_zip_iter_1 _)
  show wpAny _ _ (ret (.ref z)) _ _ s
  refine wpAny_pure ⟨_, rfl, "zip", _, ty, F.slot_zip_next.lookup, ?_⟩
  apply wpAny_bind
  apply wpAny_holding
  refine z_hint ty ?_
  refine wpAny_ite_split (fun _ => ?_) (fun _ => wpAny_pure ⟨plainId_quiet F.plain_extend_loop _, go _ c₀ _ (fun b o _ e => e) hls hS⟩)
  apply wpAny_bind
  apply wpAny_rule
  apply wpAny_bind
  show wpAny _ _ (updateSeq S (·.push .none) >>= fun _ => updateSeq S (·.pop)) _ _ _
  apply wpAny_bind
  refine wpAny_updateSeq hS rfl ?_
  have hS₂ := Heap.get?_update_self (Obj.mapSeq (·.push Value.none)) hS rfl
  refine wpAny_updateSeq (hz := by seq_fits) hS₂ rfl ?_
  have hS₃ := Heap.get?_update_self (Obj.mapSeq (·.pop)) hS₂ rfl
  refine wpAny_pure ⟨plainId_quiet F.plain_extend_loop _, go _ _ _ (fun b o hb e => ?_) ?_ hS₃⟩
  · exact (Heap.get?_update_other _ _ (Ne.symm hb)).trans ((Heap.get?_update_other _ _ (Ne.symm hb)).trans e)
  · rw [Heap.size_update, Heap.size_update]
    exact hls
theorem z_list {z TI TO i1 i2 l1 l2 : Addr} {xs ys : Array Value} (hh : A.handled = none) (D : ZipApart z TI TO i1 i2 l1 l2) (hxy : xs.size = ys.size) (hn : xs.size ≤ sizeLine) {Q : Value → Shared → Prop}
    (hz : ZAt s.heap z TI TO i1 i2 l1 l2 0 []) (hz0 : IsZ s.heap z TI TO .none false) (hl1 : s.heap.IsList l1 xs) (hl2 : s.heap.IsList l2 ys)
    (q : ∀ h' tk acc c as, (∀ b o, b ≠ z → b ≠ TO → b ≠ i1 → b ≠ i2 → s.heap.get? b = some o → h'.get? b = some o) → h'.get? s.heap.objs.size = some { cls := .type "list", dict := none, data := .seq acc c, slots := #[] } → as.length = xs.size → MadeZ xs ys s.heap.objs.size h' as →
      acc.toList = as.map Value.ref → Q (.ref s.heap.objs.size) { s with heap := h', toks := tk }) :
    wpAny (model P w) A (call (.type "list") [.ref z]) Q E s := by
  refine callType_codes (Q₁ := fun obj s₁ => obj = .ref s.heap.objs.size ∧ s₁ = { s with heap := s.heap.push { cls := .type "list", data := .seq #[] } }) F.called_list (F.typeCall_list_1 _) F.entry_list_init (code_list_new _ ⟨rfl, rfl⟩) ?_
  rintro obj s₁ ⟨rfl, rfl⟩
  have hS : (s.heap.push { cls := .type "list", data := .seq #[] }).get? s.heap.objs.size = some { cls := .type "list", data := .seq #[] } := Heap.get?_push_size _ rfl
  obtain ⟨hTI, ⟨a, b, hTO⟩, g1, g2, _⟩ := id hz
  have lt : ∀ {c : Addr} {o : Obj}, s.heap.get? c = some o → c < s.heap.objs.size := fun e => Heap.lt_size e
  have z1 : i1 < s.heap.objs.size := g1.elim fun o e => lt e.1
  have z2 : i2 < s.heap.objs.size := g2.elim fun o e => lt e.1
  have z3 : l1 < s.heap.objs.size := hl1.elim fun o e => lt e.1
  have z4 : l2 < s.heap.objs.size := hl2.elim fun o e => lt e.1
  refine ⟨⟨_, hS, rfl⟩, F.args_list_init_2 _ _, ?_⟩
  show wpAny _ _ (do let old ← Builtin.List.listItems (.ref s.heap.objs.size); Builtin.List.listUpdate (.ref s.heap.objs.size) (fun _ => #[]); letGo old.toList.reverse; Builtin.List.listExtendWith (.ref s.heap.objs.size) (.ref z) .none) _ _ _
  apply wpAny_bind
  unfold Builtin.List.listItems
  apply wpAny_bind
  refine wpAny_seqItems hS rfl (wpAny_pure ?_)
  show wpAny _ _ (updateSeq s.heap.objs.size (fun _ => #[]) >>= fun _ => letGo (#[] : Array Value).toList.reverse >>= fun _ => Builtin.List.listExtendWith (.ref s.heap.objs.size) (.ref z) .none) _ _ _
  apply wpAny_bind
  refine wpAny_updateSeq hS rfl ?_
  have hS₂ := Heap.get?_update_self (Obj.mapSeq (fun _ => (#[] : Array Value))) hS rfl
  have kp : ∀ b o, s.heap.get? b = some o → ((s.heap.push { cls := .type "list", data := .seq #[] }).update s.heap.objs.size (Obj.mapSeq (fun _ => (#[] : Array Value)))).get? b = some o := fun b o e => (Heap.get?_update_other _ _ (Nat.ne_of_gt (Heap.lt_size e))).trans (Heap.get?_push_of_some _ e)
  apply wpAny_bind
  apply wpAny_letGo
  refine z_extend (A := A.in1) (S := s.heap.objs.size) hh D hxy (Nat.ne_of_gt (lt hz0)) (Nat.ne_of_gt (lt hTI)) (Nat.ne_of_gt (lt hTO)) (Nat.ne_of_gt z1) (Nat.ne_of_gt z2) (Nat.ne_of_gt z3) (Nat.ne_of_gt z4) s.heap.objs.size ⟨Nat.le_of_lt (lt hz0), Nat.le_of_lt (lt hTI), Nat.le_of_lt (lt hTO), Nat.le_of_lt z1, Nat.le_of_lt z2, Nat.le_refl _⟩ ?_ hn .none ?_ (kp _ _ hz0) (hl1.at fun o e => kp _ o e) (hl2.at fun o e => kp _ o e) hS₂ ?_
  · show s.heap.objs.size < ((s.heap.push { cls := .type "list", data := .seq #[] }).update s.heap.objs.size (Obj.mapSeq (fun _ => (#[] : Array Value)))).objs.size
    rw [Heap.size_update, Heap.size_push]
    exact Nat.lt_succ_self _
  · exact ⟨kp _ _ hTI, ⟨a, b, kp _ _ hTO⟩, g1.at fun o e => kp _ o e, g2.at fun o e => kp _ o e, .inl ⟨rfl, kp _ _ hz0⟩⟩
  · intro h' tk acc c as k1 k2 k3 k4 k5
    exact ⟨rfl, q h' tk acc c as (fun b o n1 n2 n3 n4 e => k1 b o (Nat.ne_of_lt (Heap.lt_size e)) n1 n2 n3 n4 (kp b o e)) k2 k3 k4 k5⟩
end lz
theorem paired_of {α β : Type} {F : α → β → Prop} : ∀ {l : List α} {k : List β}, l.length = k.length → (∀ (j : Nat) x y, l[j]? = some x → k[j]? = some y → F x y) → Paired F l k
  | [], [], _, _ => .nil
  | [], _ :: _, h, _ => nomatch h
  | _ :: _, [], h, _ => nomatch h
  | x :: l, y :: k, h, f => .cons (f 0 x y rfl rfl) (paired_of (Nat.succ.inj h) fun j a b ha hb => f (j + 1) a b (by simpa using ha) (by simpa using hb))
section lzr
variable {X : Cx}
def tListZip (K : PySem.W.Frag) (ta : TA) : TE := fun σ H Q => ta σ H fun vs H1 => ∃ a b xs ys, vs = [.ref a, .ref b] ∧ SqL K H1 a xs ∧ SqL K H1 b ys ∧ xs.length = ys.length ∧
  ∀ H' p ts, Same H1 H' → H1 p = none → H' p = some (.lst (ts.map V.ref)) → Paired (fun (t : Addr) (e : V × V) => H' t = some (.tup [e.1, e.2])) ts (xs.zip ys) → Q (.ref p) H'
theorem pe_listZip {e e2 : Expr} {ta : TA} {p p2 pos pos2 : Pos} (hc : X.calm = true) (hg : Gl X "list") (hm : X.mg "list" = none) (hg2 : Gl X "zip") (hm2 : X.mg "zip" = none) (ha : PA X [e, e2] ta)
    (c1 : starEach [.Call (.Name "zip" p2) [e, e2] [] pos2] X.env = (false, eval (.Call (.Name "zip" p2) [e, e2] [] pos2) X.env) :: starEach [] X.env := by rfl)
    (c2 : starEach [e, e2] X.env = (false, eval e X.env) :: starEach [e2] X.env := by rfl) (c3 : (backTo pos2 (starEach [e2] X.env)).any (·.1) = false := by rfl) :
    PE X (.Call (.Name "list" p) [.Call (.Name "zip" p2) [e, e2] [] pos2] [] pos) (tListZip X.K ta) := by
  constructor
  intro pins s σ H Q I h
  refine wpAny_Call_Name_kw (ld_blt I hg hm (by decide +kernel : bootBuiltins "list" = some (.type "list")) ?_)
  refine PyProof.Rows.callWith_type1 ?_ c1 rfl
  rw [c1]
  show wpAny _ _ (spliced ((false, eval (.Call (.Name "zip" p2) [e, e2] [] pos2) X.env) :: backTo pos (starEach [] X.env))) _ _ s
  refine Calls.spliced_cons ?_
  refine Call_ (ld_blt I hg2 hm2 PyProof.Rows.boot_zip (PyProof.Rows.callWith_type1 (thn (ha.run pos2 pins s σ H _ I h) ?_) c2 c3))
  rintro us s1 ⟨vs, H1, I1, r1, a, b, xs, ys, rfl, hx, hy, hxy, q⟩
  match us, r1 with
  | [u1, u2], .cons ra (.cons rb .nil) =>
    cases ra
    cases rb
    obtain ⟨it1, rv1, p1, z1⟩ := I1.list hx
    obtain ⟨it2, rv2, p2', z2⟩ := I1.list hy
    have n1 := rv1.length
    have n2 := rv2.length
    refine call_zip_2 p1.isList p2'.isList fun h' hz hTI hTO g1 g2 hsz hk => ?_
    refine Calls.spliced_nil ?_
    have la : a < s1.heap.objs.size := p1.lt
    have lb : b < s1.heap.objs.size := p2'.lt
    refine z_list (s := { s1 with heap := h' }) (I1.ok.hd hc) (PySem.W.ktu_apart s1.heap.objs.size a b la lb) (by simp; omega) (by simp; omega) ⟨hTI, ⟨_, _, hTO⟩, g1, g2, .inl ⟨rfl, hz⟩⟩ hz (p1.isList.at fun o e => hk _ o e) (p2'.isList.at fun o e => hk _ o e) fun h'' tk acc c as kp hS hal hG hacc => ?_
    have old : ∀ b o, s1.heap.get? b = some o → h''.get? b = some o := fun b o e => by
      have lt := Heap.lt_size e
      exact kp b o (Nat.ne_of_lt (Nat.lt_of_lt_of_le lt (Nat.le_add_right _ _))) (Nat.ne_of_lt (Nat.lt_of_lt_of_le lt (Nat.le_add_right _ _))) (Nat.ne_of_lt lt) (Nat.ne_of_lt (Nat.lt_of_lt_of_le lt (Nat.le_add_right _ _))) (hk b o e)
    have hS5 : s1.heap.objs.size ≤ h'.objs.size := by
      rw [hsz]
      exact Nat.le_add_right _ _
    have J0 : Inv X pins σ H1 { s1 with heap := h'', toks := tk } := I1.kept (t' := tk) old
    have nS : H1 h'.objs.size = none := I1.hok.fresh hS5
    have hl : as.length = xs.length := by
      rw [hal]
      simp
      omega
    have ok1 : ObjOk X.prog X.w (upd H1 h'.objs.size (.lst (as.map V.ref))) h'' h'.objs.size (.lst (as.map V.ref)) := by
      refine ⟨by rw [List.length_map, hl]; exact z1, acc.toList, c, ?_, ?_⟩
      · rw [hacc]
        exact LiI.vals_refs as
      · rw [Array.toArray_toList]
        exact hS
    have J1 : Inv X pins σ (upd H1 h'.objs.size (.lst (as.map V.ref))) { s1 with heap := h'', toks := tk } := J0.take (h' := h'') (t' := tk) (fun b ob _ e => e) (I1.fpOk hS5 nS) ok1
    have nd : as.Nodup := hG.rise.imp fun {a b} (h : a < b) => Nat.ne_of_lt h
    obtain ⟨H2, J2, s2, tp⟩ := L2.DX.takeT (P := fun t vs => ∃ (j : Nat) (e : V × V), as[j]? = some t ∧ (xs.zip ys)[j]? = some e ∧ vs = [e.1, e.2]) I1 as _ J1 nd fun t ht => by
      obtain ⟨j, hj⟩ := List.mem_iff_getElem?.mp ht
      obtain ⟨x, y, e1, e2, e3⟩ := hG.pairs j t hj
      have ab := hG.above t ht
      have hjx : j < xs.length := by
        have := (List.getElem?_eq_some_iff.mp hj).1
        omega
      have ex : it1[j]? = some x := by simpa using e1
      have ey : it2[j]? = some y := by simpa using e2
      obtain ⟨x', hx', rx⟩ := rv1.get (List.getElem?_eq_getElem hjx)
      obtain ⟨y', hy', ry⟩ := rv2.get (List.getElem?_eq_getElem (show j < ys.length by omega))
      rw [hx'] at ex
      rw [hy'] at ey
      obtain rfl := Option.some.inj ex
      obtain rfl := Option.some.inj ey
      refine ⟨Nat.le_trans hS5 (Nat.le_of_lt ab), ?_, [xs[j], ys[j]'(by omega)], ⟨j, (xs[j], ys[j]'(by omega)), hj, ?_, rfl⟩, fun H3 => ⟨by show 2 ≤ sizeLine; decide, [x', y'], .cons rx (.cons ry .nil), ⟨_, e3, rfl, _, rfl⟩⟩⟩
      · rw [upd_ne (Nat.ne_of_gt ab)]
        exact I1.hok.fresh (Nat.le_trans hS5 (Nat.le_of_lt ab))
      · rw [List.getElem?_zip_eq_some]
        exact ⟨List.getElem?_eq_getElem hjx, List.getElem?_eq_getElem (by omega)⟩
    refine ⟨.ref h'.objs.size, H2, J2, rfl, q H2 h'.objs.size as (fun b o e => s2 b o (by rw [upd_ne (ne_of_none e nS)]; exact e)) nS (s2 _ _ upd_same) ?_⟩
    refine paired_of (by rw [List.length_zip]; omega) fun j t e ht he => ?_
    obtain ⟨vs, ⟨j', e', h1, h2, rfl⟩, h3⟩ := tp t (List.mem_of_getElem? ht)
    have : j = j' := by
      have i1 := (List.getElem?_eq_some_iff.mp ht).1
      exact (List.getElem?_inj i1 nd).mp (ht.trans h1.symm)
    subst this
    rw [he] at h2
    obtain rfl := Option.some.inj h2
    exact h3
end lzr
/-! ### tape, digit -/
def spTape (K : PySem.W.Frag) : Sp := fun vs H Q _ => ∃ (S : Addr) (ns : List Int) (st : Int), vs = [.ref S, .int st] ∧ SqL K H S (ns.map V.int) ∧ 0 ≤ st ∧ st ≤ 1000 ∧ ∀ H' p, Same H H' → H p = none → TP H' p → Q (.ref p) H'
theorem ok_tape {f : Addr} {fd : FuncData} {k : Nat} (F : Fun K "_law_tape" "_law_tape" s_law_tape f fd) (ma : mg "abs" = none) (mn : mg "len" = none) : FnOk P w K mg base CX0 (k + 1) f fd ["script", "start"] (spTape K) := by
  refine F.ok sc_law_tape (fun vs H Q E h => ?_) (fun cdv A outer s H vs Q E hr h => ?_)
  · obtain ⟨S, ns, st, rfl, _⟩ := h
    rfl
  · obtain ⟨S, ns, st, rfl, hS, h0, h1, q⟩ := h
    refine ⟨_, pss_cons (ps_set (i := 2) sc_law_tape.nd rfl (.inl rfl) pe_int)
      (pss_mid (ps_if (pt_cmpR op_lt (pv 1) (pe_callB call_len_seq (by rfl) mn PySem.boot_len (pa_cons (pv 0) pa_nil)) (nomark _))
        (pss_one (ps_set (i := 2) sc_law_tape.nd rfl (.inl rfl) (pe_callB call_abs (by rfl) ma (by decide +kernel) (pa_cons (pe_ix ix_list (pv 0) (pv 1) (fun _ _ => rfl)) pa_nil))))
        (pss_one (ps_if (pt_cmpR op_gt (pe_callB call_len_seq (by rfl) mn PySem.boot_len (pa_cons (pv 0) pa_nil)) pe_int (nomark _))
          (pss_one (ps_set (i := 2) sc_law_tape.nd rfl (.inl rfl) (pe_op op_add (pe_op op_mod (pe_callB call_abs (by rfl) ma (by decide +kernel) (pa_cons (pe_ix ix_list (pv 0) (pe_op op_mod (pv 1) (pe_callB call_len_seq (by rfl) mn PySem.boot_len (pa_cons (pv 0) pa_nil))) (fun _ _ => rfl)) pa_nil)) (pe_op op_pow pe_int pe_int)) (pe_op op_mul (pv 1) pe_int)))) pss_nil)))
      (pss_one (ps_ret (pe_lst (pa_cons (pv 2) (pa_cons (pe_op op_add (pe_op op_mod (pe_op op_add (pe_op op_mul (pv 1) pe_int) (pv 2)) pe_int) pe_int) pa_nil)))))), ?_⟩
    refine ⟨fun σ2 H2 => ∃ c : Int, σ2 = [some (.ref S), some (.int st), some (.int c)] ∧ H2 = H, ?_, ?_⟩
    · refine ⟨.int st, rfl, .ref S, rfl, S, _, rfl, .inl hS, st, _, rfl, rfl, _, rfl, ite2 (fun e => ?_) (fun e => ?_)⟩
      · have hl := of_decide_eq_true e
        rw [List.length_map] at hl
        refine ⟨.ref S, rfl, .int st, rfl, S, _, st, _, rfl, rfl, hS, atI_ints h0 hl, _, rfl, ?_⟩
        exact ⟨_, rfl, rfl⟩
      · refine ⟨.ref S, rfl, S, _, rfl, .inl hS, _, 0, rfl, rfl, _, rfl, ite2 (fun e2 => ?_) (fun e2 => ?_)⟩
        · have hpos := of_decide_eq_true e2
          have hp2 : (0 : Int) < ns.length := by
            rw [List.length_map] at hpos
            exact hpos
          refine ⟨.ref S, rfl, .int st, rfl, .ref S, rfl, S, _, rfl, .inl hS, st, _, rfl, rfl, hpos, S, _, _, _, rfl, rfl, hS, atI_ints (Int.emod_nonneg _ (by omega)) (by rw [List.length_map]; exact Int.emod_lt_of_pos _ hp2), _, rfl, ?_⟩
          refine ⟨10, 9, rfl, rfl, ⟨by decide, by decide, by decide⟩, _, _, rfl, rfl, (by show (0 : Int) < 10 ^ 9; decide), .int st, rfl, st, 1000003, rfl, rfl, .inr ⟨by decide, by decide⟩, _, _, rfl, rfl, _, rfl, rfl⟩
        · exact ⟨_, rfl, rfl⟩
    · rintro σ2 H2 ⟨c, rfl, rfl⟩
      refine ⟨.int c, rfl, .int st, rfl, st, 7919, rfl, rfl, .inr ⟨by decide, by decide⟩, .int c, rfl, _, c, rfl, rfl, _, 998244353, rfl, rfl, (by show (0 : Int) < 998244353; decide), _, 1, rfl, rfl, by show 2 ≤ sizeLine; decide, fun p hp => ?_⟩
      exact q _ p (same_new hp) hp ⟨_, _, upd_same⟩
def spDigit : Sp := fun vs H Q _ => ∃ (a : Addr) (m : Int), vs = [.ref a, .int m] ∧ 0 < m ∧ m ≤ 2 ^ 80 ∧ TP H a ∧ ∀ H' z, 0 ≤ z → z < m → TP H' a → But a H H' → Q (.int z) H'
theorem ok_digit {f : Addr} {fd : FuncData} {k : Nat} (F : Fun K "_law_digit" "_law_digit" s_law_digit f fd) : FnOk P w K mg base CX0 (k + 1) f fd ["tape", "many"] spDigit := by
  refine F.ok sc_law_digit (fun vs H Q E h => ?_) (fun cdv A outer s H vs Q E hr h => ?_)
  · obtain ⟨a, m, rfl, _⟩ := h
    rfl
  · obtain ⟨a, m, rfl, hm, hm2, ⟨x, y, ea⟩, q⟩ := h
    refine ⟨_, pss_cons (ps_if (pt_cmpR op_gt (pe_ix ix_list (pv 0) pe_int (fun _ _ => rfl)) pe_int (nomark _))
        (pss_cons (ps_set (i := 2) sc_law_digit.nd rfl (.inl rfl) (pe_op op_mod (pe_ix ix_list (pv 0) pe_int (fun _ _ => rfl)) (pv 1)))
        (pss_cons (ps_asg (pe_op op_fdivW (pe_ix ix_list (pv 0) pe_int (fun _ _ => rfl)) (pv 1)) (pg_sub (pv 0) pe_int set_list))
        (pss_one (ps_ret (pv 2))))) pss_nil)
      (pss_cons (ps_asg (pe_op op_mod (pe_op op_add (pe_op op_mul (pe_ix ix_list (pv 0) pe_int (fun _ _ => rfl)) pe_int) pe_int) pe_int) (pg_sub (pv 0) pe_int set_list))
      (pss_cons (ps_set (i := 3) sc_law_digit.nd rfl (.inl rfl) (pe_op op_mod (pe_op op_mul (pe_ix ix_list (pv 0) pe_int (fun _ _ => rfl)) pe_int) pe_int))
      (pss_one (ps_ret (pe_op op_mod (pe_op op_add (pe_op op_mul (pe_op op_mod (pe_op op_mul (pe_ix ix_list (pv 0) pe_int (fun _ _ => rfl)) (pe_ix ix_list (pv 0) pe_int (fun _ _ => rfl))) pe_int) pe_int) (pv 3)) (pv 1)))))), ?_⟩
    have lA : SqL K H a [.int x, .int y] := .inl (.inl ea)
    have put : ∀ o, But a H (upd H a o) := fun o => But.put
    refine ⟨.ref a, rfl, a, _, 0, .int x, rfl, rfl, lA, rfl, x, 0, rfl, rfl, _, rfl, ite2 (fun e => ?_) (fun e => ?_)⟩
    · refine ⟨.ref a, rfl, a, _, 0, .int x, rfl, rfl, lA, rfl, .int m, rfl, x, m, rfl, rfl, hm, ?_⟩
      refine ⟨.ref a, rfl, a, _, 0, .int x, rfl, rfl, lA, rfl, .int m, rfl, x, m, rfl, rfl, wide_div (b := 81) hm (by omega) (by decide) (by decide), ?_⟩
      refine ⟨.ref a, rfl, a, _, 0, 0, rfl, rfl, ea, rfl, .int (x % m), rfl, ?_⟩
      exact q _ _ (Int.emod_nonneg _ (by omega)) (Int.emod_lt_of_pos _ hm) ⟨x / m, y, upd_same⟩ (put _)
    · refine ⟨.ref a, rfl, a, _, 1, .int y, rfl, rfl, lA, rfl, y, 48271, rfl, rfl, .inr ⟨by decide, by decide⟩, _, 11, rfl, rfl, _, 2147483647, rfl, rfl, (by show (0 : Int) < 2147483647; decide), ?_⟩
      have l0 := Int.emod_nonneg (y * 48271 + 11) (show (2147483647 : Int) ≠ 0 by decide)
      have l1 := Int.emod_lt_of_pos (y * 48271 + 11) (show (0 : Int) < 2147483647 by decide)
      obtain ⟨z, hz⟩ : ∃ z : Int, (y * 48271 + 11) % 2147483647 = z := ⟨_, rfl⟩
      rw [hz] at l0 l1
      refine ⟨.ref a, rfl, a, _, 1, 1, rfl, rfl, ea, rfl, ?_⟩
      refine ⟨.ref a, rfl, a, _, 1, .int z, rfl, rfl, .inl (.inl upd_same), (by rw [← hz]; rfl), z, 40692, rfl, rfl, .inr ⟨by decide, by decide⟩, _, 2147483399, rfl, rfl, (by show (0 : Int) < 2147483399; decide), ?_⟩
      refine ⟨.ref a, rfl, a, _, 1, .int z, rfl, rfl, .inl (.inl upd_same), (by rw [← hz]; rfl), .ref a, rfl, a, _, 1, .int z, rfl, rfl, .inl (.inl upd_same), (by rw [← hz]; rfl), z, z, rfl, rfl, .inr ⟨by omega, by omega⟩, _, 2147483629, rfl, rfl, (by show (0 : Int) < 2147483629; decide), _, 2147483399, rfl, rfl, .inr ⟨by decide, by decide⟩, _, rfl, _, _, rfl, rfl, .int m, rfl, _, m, rfl, rfl, hm, ?_⟩
      exact q _ _ (Int.emod_nonneg _ (by omega)) (Int.emod_lt_of_pos _ hm) ⟨x, z, by rw [← hz]; exact upd_same⟩ (put _)
/-! ### deeds that carry -/
theorem four_calm : ∀ x ∈ (["and", "or", "xor", "not"] : List Str), x ∉ twC := by decide +kernel
def carN : List Deed → Nat
  | [] => 0
  | d :: ds => carN ds + if d.1 ∈ twC then 1 else 0
theorem carN_snoc (d : Deed) : ∀ ds : List Deed, carN (ds ++ [d]) = carN ds + if d.1 ∈ twC then 1 else 0
  | [] => by simp [carN]
  | e :: ds => by
    show carN (ds ++ [d]) + _ = carN ds + _ + _
    rw [carN_snoc d ds]
    omega
theorem carN_le : ∀ ds : List Deed, carN ds ≤ ds.length
  | [] => Nat.le_refl _
  | d :: ds => by
    show carN ds + _ ≤ ds.length + 1
    have := carN_le ds
    split <;> omega
/-! ### a deed off the tape -/
def spTd : Sp := fun vs H Q _ => ∃ (a : Addr) (m lf : Int), vs = [.ref a, .int m, .int lf] ∧ 0 < m ∧ m ≤ 100 ∧ TP H a ∧ ∀ H' r d, DeedOk m d → (lf = 0 → d.1 ∉ twC) → H' r = some (.tup (dV d)) → TP H' a → But a H H' → Q (.ref r) H'
theorem ok_td {f fD : Addr} {fd fdD : FuncData} {k : Nat} (F : Fun K "_law_deed" "_law_deed" s_law_deed f fd) (GD : FnOk P w K mg base CX0 (k + 1) fD fdD ["tape", "many"] spDigit) (kD : PySem.W.keepIn K (.ref fD) = true) (bD : Binds K fdD ["tape", "many"] []) (gD : mg "_law_digit" = some (.ref fD)) :
    FnOk P w K mg base CX0 (k + 2) f fd ["tape", "ahead", "left"] spTd := by
  refine F.ok sc_law_deed (fun vs H Q E h => ?_) (fun cdv A outer s H vs Q E hr h => ?_)
  · obtain ⟨a, m, lf, rfl, _⟩ := h
    rfl
  · obtain ⟨a, m, lf, rfl, hm, hm2, ht, q⟩ := h
    refine ⟨_, pss_cons (ps_set (i := 3) sc_law_deed.nd rfl (.inl rfl) (pe_lst (pa_cons pe_str (pa_cons pe_str (pa_cons pe_str (pa_cons pe_str (pa_cons pe_str (pa_cons pe_str (pa_cons pe_str (pa_cons pe_str (pa_cons pe_str (pa_cons pe_str (pa_cons pe_str (pa_cons pe_str pa_nil))))))))))))))
      (pss_cons (ps_set (i := 4) sc_law_deed.nd rfl (.inl rfl) (pe_ix ix_list (pv 3) (pe_call GD hr (by rfl) gD kD bD .nil pass0 (pa_cons (pv 0) (pa_cons pe_int pa_nil))) (fun _ _ => rfl)))
      (pss_mid (ps_if (PW.pt (pw_and (pt_cmpR op_eq (pv 2) pe_int (nomark _)) (pw_and1 (pt_cmpR op_in_seq (pv 4) (pe_tup (pa_cons pe_str (pa_cons pe_str (pa_cons pe_str (pa_cons pe_str (pa_cons pe_str pa_nil)))))) (by rfl)))))
        (pss_one (ps_set (i := 4) sc_law_deed.nd rfl (.inl rfl) (pe_ix ix_list (pe_lst (pa_cons pe_str (pa_cons pe_str (pa_cons pe_str (pa_cons pe_str pa_nil))))) (pe_call GD hr (by rfl) gD kD bD .nil pass0 (pa_cons (pv 0) (pa_cons pe_int pa_nil))) (fun _ _ => rfl)))) pss_nil)
      (pss_cons (ps_set (i := 5) sc_law_deed.nd rfl (.inl rfl) (pe_lst (pa_cons (pe_call GD hr (by rfl) gD kD bD .nil pass0 (pa_cons (pv 0) (pa_cons (pv 1) pa_nil))) (pa_cons (pe_call GD hr (by rfl) gD kD bD .nil pass0 (pa_cons (pv 0) (pa_cons (pv 1) pa_nil))) pa_nil))))
      (pss_mid (ps_if (pt_cmpR op_eq (pe_call GD hr (by rfl) gD kD bD .nil pass0 (pa_cons (pv 0) (pa_cons pe_int pa_nil))) pe_int (nomark _)) (pss_one (ps_asg (pe_op op_sub (pv 1) pe_int) (pg_sub (pv 5) (pe_call GD hr (by rfl) gD kD bD .nil pass0 (pa_cons (pv 0) (pa_cons pe_int pa_nil))) set_list))) pss_nil)
      (pss_cons (ps_if (pt_cmpR op_in_seq (pv 4) (pe_tup (pa_cons pe_str (pa_cons pe_str (pa_cons pe_str pa_nil)))) (by rfl)) (pss_one (ps_ret (pe_tup (pa_cons (pv 4) pa_nil)))) pss_nil)
      (pss_cons (ps_if (pt_cmpR op_in_seq (pv 4) (pe_tup (pa_cons pe_str (pa_cons pe_str (pa_cons pe_str pa_nil)))) (by rfl)) (pss_one (ps_ret (pe_tup (pa_cons (pv 4) (pa_cons (pe_ix ix_list (pv 5) pe_int (fun _ _ => rfl)) pa_nil))))) pss_nil)
      (pss_one (ps_ret (pe_tup (pa_cons (pv 4) (pa_cons (pe_ix ix_list (pv 5) pe_int (fun _ _ => rfl)) (pa_cons (pe_ix ix_list (pv 5) pe_int (fun _ _ => rfl)) pa_nil)))))))))))), ?_⟩
    refine ⟨by show 12 ≤ sizeLine; decide, fun S hS => ?_⟩
    have nS := ht.ne_new hS
    refine ⟨.ref S, rfl, .ref a, rfl, a, 12, rfl, by decide, by decide, ht.upd nS, fun H1 z z0 z1 t1 b1 => ?_⟩
    have eS1 : H1 S = some (.lst (tw12.map V.str)) := b1 _ _ nS upd_same
    obtain ⟨v, hv, hvm⟩ := atI_in (l := tw12.map V.str) z0 (by show z < 12; exact z1)
    obtain ⟨x, hx, rfl⟩ := mem_strs hvm
    have kp1 : But a H H1 := (But.same (same_new hS)).trans b1
    refine ⟨S, _, z, .str x, rfl, rfl, .inl (.inl eS1), hv, ?_⟩
    refine ⟨fun σ2 H2 => ∃ x, σ2 = [some (.ref a), some (.int m), some (.int lf), some (.ref S), some (.str x), none] ∧ x ∈ tw12 ∧ (lf = 0 → x ∉ twC) ∧ TP H2 a ∧ But a H H2, ?_, ?_⟩
    · refine ⟨.int lf, rfl, rfl, _, rfl, ite2 (fun e => ?_) (fun e => ?_)⟩
      · refine ⟨.str x, rfl, by show 5 ≤ sizeLine; decide, fun T hT => ?_⟩
        have nT := t1.ne_new hT
        refine ⟨T, _, rfl, .inr (SqT.of upd_same), rfl, rfl, _, rfl, ite2 (fun e2 => ?_) (fun e2 => ?_)⟩
        · refine ⟨by show 4 ≤ sizeLine; decide, fun M hM => ?_⟩
          have t2 := t1.upd (o := .tup (twC.map V.str)) nT
          have nM := t2.ne_new hM
          refine ⟨.ref a, rfl, a, 4, rfl, by decide, by decide, t2.upd nM, fun H3 y y0 y1 t3 b3 => ?_⟩
          obtain ⟨v2, hv2, hvm2⟩ := atI_in (l := (["and", "or", "xor", "not"] : List Str).map V.str) y0 (by show y < 4; exact y1)
          obtain ⟨x2, hx2, rfl⟩ := mem_strs hvm2
          refine ⟨M, _, y, .str x2, rfl, rfl, .inl (.inl (b3 _ _ nM upd_same)), hv2, x2, rfl, tw_four x2 hx2, fun _ => four_calm x2 hx2, t3, ?_⟩
          exact ((kp1.trans (But.same (same_new hT))).trans (But.same (same_new hM))).trans b3
        · exact ⟨x, rfl, hx, fun _ z => e2 ((inS x twC).trans (decide_eq_true z)), t1.upd nT, kp1.trans (But.same (same_new hT))⟩
      · exact ⟨x, rfl, hx, fun z => absurd (decide_eq_true (congrArg V.int z)) e, t1, kp1⟩
    · rintro σ2 H2 ⟨x, rfl, hx, hcalm, t2, b2⟩
      refine ⟨.ref a, rfl, .int m, rfl, a, m, rfl, hm, by omega, t2, fun H3 i i0 i1 t3 b3 => ?_⟩
      refine ⟨.ref a, rfl, .int m, rfl, a, m, rfl, hm, by omega, t3, fun H4 j j0 j1 t4 b4 => ?_⟩
      refine ⟨by show 2 ≤ sizeLine; decide, fun M hM => ?_⟩
      have nM := t4.ne_new hM
      have bH : But a H H4 := (b2.trans b3).trans b4
      refine ⟨fun σ5 H5 => ∃ i j : Int, σ5 = [some (.ref a), some (.int m), some (.int lf), some (.ref S), some (.str x), some (.ref M)] ∧ 0 ≤ i ∧ i < m ∧ 0 ≤ j ∧ j < m ∧ H5 M = some (.lst [.int i, .int j]) ∧ TP H5 a ∧ But a H H5, ?_, ?_⟩
      · have bM : But a H (upd H4 M (.lst [.int i, .int j])) := bH.trans (But.same (same_new hM))
        refine ⟨.ref a, rfl, a, 3, rfl, by decide, by decide, t4.upd nM, fun H5 y y0 y1 t5 b5 => ?_⟩
        have eM5 := b5 _ _ nM upd_same
        refine ⟨rfl, _, rfl, ite2 (fun e => ?_) (fun e => ?_)⟩
        · refine ⟨.int m, rfl, m, 1, rfl, rfl, .ref M, rfl, .ref a, rfl, a, 2, rfl, by decide, by decide, t5, fun H6 u u0 u1 t6 b6 => ?_⟩
          have eM6 := b6 _ _ nM eM5
          have old : ∀ o, But a H (upd H6 M o) := fun o b v nb e => by
            have e1 := bH b v nb e
            rw [upd_ne (ne_of_none e1 hM)]
            exact b6 b v nb (b5 b v nb (by rw [upd_ne (ne_of_none e1 hM)]; exact e1))
          have hu : u = 0 ∨ u = 1 := by omega
          rcases hu with rfl | rfl
          · exact ⟨M, _, 0, 0, rfl, rfl, eM6, rfl, m - 1, j, rfl, by omega, by omega, j0, j1, upd_same, t6.upd nM, old _⟩
          · exact ⟨M, _, 1, 1, rfl, rfl, eM6, rfl, i, m - 1, rfl, i0, i1, by omega, by omega, upd_same, t6.upd nM, old _⟩
        · exact ⟨i, j, rfl, i0, i1, j0, j1, eM5, t5, bM.trans b5⟩
      · rintro σ5 H5 ⟨i, j, rfl, i0, i1, j0, j1, eM, t5, b5⟩
        refine ⟨.str x, rfl, by show 3 ≤ sizeLine; decide, fun T hT => ?_⟩
        have nT := t5.ne_new hT
        have sT := same_new (o := .tup [.str "all", .str "one", .str "none"]) hT
        refine ⟨T, _, rfl, .inr (SqT.of upd_same), rfl, rfl, _, rfl, ite2 (fun e => ?_) (fun e => ?_)⟩
        · have hx0 : x ∈ (["all", "one", "none"] : List Str) := of_decide_eq_true ((inS x ["all", "one", "none"]).symm.trans e)
          refine ⟨.str x, rfl, by show 1 ≤ sizeLine; decide, fun r hr => ?_⟩
          have nr := (t5.upd nT).ne_new hr
          exact q _ r (x, []) ⟨tw_zero x hx0, (fun _ z => nomatch z)⟩ hcalm upd_same ((t5.upd nT).upd nr) ((b5.trans (But.same sT)).trans (But.same (same_new hr)))
        · have hx0 : ¬ x ∈ (["all", "one", "none"] : List Str) := fun z => e ((inS x ["all", "one", "none"]).trans (decide_eq_true z))
          refine ⟨.str x, rfl, by show 3 ≤ sizeLine; decide, fun U hU => ?_⟩
          have nU := (t5.upd nT).ne_new hU
          have sU := same_new (o := .tup [.str "not", .str "twice", .str "neg"]) hU
          have t6 := (t5.upd (o := .tup [.str "all", .str "one", .str "none"]) nT).upd (o := .tup [.str "not", .str "twice", .str "neg"]) nU
          have eM6 := sU _ _ (sT _ _ eM)
          refine ⟨U, _, rfl, .inr (SqT.of upd_same), rfl, rfl, _, rfl, ite2 (fun e2 => ?_) (fun e2 => ?_)⟩
          · have hx1 : x ∈ (["not", "twice", "neg"] : List Str) := of_decide_eq_true ((inS x ["not", "twice", "neg"]).symm.trans e2)
            refine ⟨.str x, rfl, .ref M, rfl, M, _, 0, .int i, rfl, rfl, .inl (.inl eM6), rfl, by show 2 ≤ sizeLine; decide, fun r hr => ?_⟩
            have nr := t6.ne_new hr
            refine q _ r (x, [i]) ⟨tw_one x hx1, fun z hz => ?_⟩ hcalm upd_same (t6.upd nr) (((b5.trans (But.same sT)).trans (But.same sU)).trans (But.same (same_new hr)))
            rw [List.mem_singleton.mp hz]
            exact ⟨i0, i1⟩
          · have hx1 : ¬ x ∈ (["not", "twice", "neg"] : List Str) := fun z => e2 ((inS x ["not", "twice", "neg"]).trans (decide_eq_true z))
            have hx2 : (x, (2 : Int)) ∈ fwL := ((tw_two x hx).resolve_left hx0).resolve_left hx1
            refine ⟨.str x, rfl, .ref M, rfl, M, _, 0, .int i, rfl, rfl, .inl (.inl eM6), rfl, .ref M, rfl, M, _, 1, .int j, rfl, rfl, .inl (.inl eM6), rfl, by show 3 ≤ sizeLine; decide, fun r hr => ?_⟩
            have nr := t6.ne_new hr
            refine q _ r (x, [i, j]) ⟨hx2, fun z hz => ?_⟩ hcalm upd_same (t6.upd nr) (((b5.trans (But.same sT)).trans (But.same sU)).trans (But.same (same_new hr)))
            simp only [List.mem_cons, List.not_mem_nil, or_false] at hz
            rcases hz with rfl | rfl
            · exact ⟨i0, i1⟩
            · exact ⟨j0, j1⟩
/-! ### how many carry -/
def spCr (K : PySem.W.Frag) : Sp := fun vs H Q _ => ∃ (L : Addr) (rs : List Addr) (ds : List Deed), vs = [.ref L] ∧ SqL K H L (rs.map V.ref) ∧ DsAt H rs ds ∧ ds.length ≤ 100 ∧ ∀ H', Same H H' → Q (.int (carN ds : Nat)) H'
theorem ok_cr {f : Addr} {fd : FuncData} {k : Nat} (F : Fun K "_law_carrying" "_law_carrying" s_law_carrying f fd) (mn : mg "len" = none) : FnOk P w K mg base CX0 (k + 1) f fd ["deeds"] (spCr K) := by
  refine F.ok sc_law_carrying (fun vs H Q E h => ?_) (fun cdv A outer s H vs Q E hr h => ?_)
  · obtain ⟨L, rs, ds, rfl, _⟩ := h
    rfl
  · obtain ⟨L, rs, ds, rfl, eL, hd, hl, q⟩ := h
    refine ⟨_, pss_one (ps_ret (pe_callB call_len_seq (by rfl) mn PySem.boot_len (pa_cons
      (pe_lc (own := [("deed", 1)]) (g := gName 1) (by rfl) sc_law_carrying.nd (pi_list (pv 0)) (blkOk_by (own := [("deed", 1)]) (N := N_law_carrying) (sc := defScope s_law_carrying) (by decide +kernel))
        (fun _ _ _ _ _ => pg_name (i := 1) sc_law_carrying.nd rfl (Or.inl rfl)) (fun _ _ _ _ _ => pts_one (pt_cmpR (r := rIn K false) op_in_seq (pe_ix (r := rIxT K) ix_tup (pv 1) pe_int (fun _ _ => rfl)) (pe_tup (pa_cons pe_str (pa_cons pe_str (pa_cons pe_str (pa_cons pe_str (pa_cons pe_str pa_nil)))))) (by rfl)))
        (fun _ _ _ _ _ => pv 1)) pa_nil))), ?_⟩
    refine ⟨.ref L, rfl, L, rfl, ⟨_, eL⟩, fun C hC => ?_⟩
    refine lc_list (K := K) (a := L) (xs := rs.map V.ref) (fun i H4 => ∃ ys : List V, ys.length = carN (ds.take i) ∧ H4 C = some (.lst ys) ∧ Same H H4) ⟨[], rfl, upd_same, same_new hC⟩ (fun i H4 _ hp => ?_) (fun i x H4 hx hp => ?_) (fun H4 hp => ?_)
    · obtain ⟨_, _, _, sm⟩ := hp
      exact sm.seq eL
    · obtain ⟨ys, hy, eC, sm⟩ := hp
      have hi : i < rs.length := by
        have := (List.getElem?_eq_some_iff.mp hx).1
        rwa [List.length_map] at this
      have hx' : x = .ref rs[i] := by
        rw [List.getElem?_map, List.getElem?_eq_getElem hi] at hx
        exact (Option.some.inj hx).symm
      subst hx'
      obtain ⟨d, hd1, hd2⟩ := awGet hd (List.getElem?_eq_getElem hi)
      have old : ∀ H6, Same H H6 → ∀ o, Same H (upd H6 C o) := fun H6 s6 o b u e => by
        rw [upd_ne (ne_of_none e hC)]
        exact s6 b u e
      refine ⟨rfl, .ref rs[i], rfl, rs[i], _, 0, .str d.1, rfl, rfl, SqT.of (sm _ _ hd2), dv0 d, by show 5 ≤ sizeLine; decide, fun T hT => ?_⟩
      have sT := sm.trans (same_new (o := .tup [.str "add", .str "sub", .str "twice", .str "neg", .str "one"]) hT)
      have eCT : upd H4 T (.tup [.str "add", .str "sub", .str "twice", .str "neg", .str "one"]) C = some (.lst ys) := same_new hT _ _ eC
      refine ⟨T, _, rfl, .inr (SqT.of upd_same), rfl, rfl, _, rfl, ite2 (fun e => ?_) (fun e => ?_)⟩
      · have hc : d.1 ∈ twC := of_decide_eq_true ((inS d.1 twC).symm.trans e)
        refine ⟨.ref rs[i], rfl, ys, eCT, ?_, ys ++ [.ref rs[i]], ?_, upd_same, old _ sT _⟩
        · have := awLen hd
          have h2 := carN_le (ds.take i)
          rw [List.length_take] at h2
          exact small1000 (by omega)
        · rw [List.length_append, hy, List.take_add_one, hd1, Option.toList_some, carN_snoc, if_pos hc]
          rfl
      · have hc : ¬ d.1 ∈ twC := fun z => e ((inS d.1 twC).trans (decide_eq_true z))
        exact ⟨ys, by rw [hy, List.take_add_one, hd1, Option.toList_some, carN_snoc, if_neg hc]; rfl, eCT, sT⟩
    · obtain ⟨ys, hy, eC, sm⟩ := hp
      rw [List.length_map, awLen hd, List.take_length] at hy
      rw [← hy] at q
      exact ⟨C, ys, rfl, .inl (.inl (.inl eC)), q _ sm⟩
/-! ### a row off the tape -/
def spTr : Sp := fun vs H Q _ => ∃ (a : Addr) (m n lf : Int), vs = [.ref a, .int m, .int n, .int lf] ∧ 1 ≤ m ∧ m ≤ 3 ∧ 0 ≤ n ∧ n ≤ 8 ∧ TP H a ∧
  ∀ H' R ds o, RowAt H' R m ds o → RowOk m ds o → (ds.length : Int) ≤ n → (0 ≤ lf → (carN ds : Int) ≤ lf) → TP H' a → But a H H' → Q (.ref R) H'
theorem ok_tr {f fD fE fC : Addr} {fd fdD fdE fdC : FuncData} {k : Nat} (F : Fun K "_law_row" "_law_row" s_law_row f fd) (GD : FnOk P w K mg base CX0 (k + 1) fD fdD ["tape", "many"] spDigit) (kD : PySem.W.keepIn K (.ref fD) = true)
    (GE : FnOk P w K mg base CX0 (k + 2) fE fdE ["tape", "ahead", "left"] spTd) (kE : PySem.W.keepIn K (.ref fE) = true) (GC : FnOk P w K mg base CX0 (k + 1) fC fdC ["deeds"] (spCr K)) (kC : PySem.W.keepIn K (.ref fC) = true)
    (bD : Binds K fdD ["tape", "many"] []) (bE : Binds K fdE ["tape", "ahead", "left"] []) (bC : Binds K fdC ["deeds"] []) (gD : mg "_law_digit" = some (.ref fD)) (gE : mg "_law_deed" = some (.ref fE)) (gC : mg "_law_carrying" = some (.ref fC))
    (mt : mg "tuple" = none) (mr : mg "range" = none) (mn : mg "len" = none) : FnOk P w K mg base CX0 (k + 3) f fd ["tape", "many", "most", "left"] spTr := by
  refine F.ok sc_law_row (fun vs H Q E h => ?_) (fun cdv A outer s H vs Q E hr h => ?_)
  · obtain ⟨a, m, n, lf, rfl, _⟩ := h
    rfl
  · obtain ⟨a, m, n, lf, rfl, hm, hm2, hn, hn2, ht, q⟩ := h
    have hr1 := hr.mono (show k + 1 ≤ k + 2 by omega)
    refine ⟨_, pss_cons (ps_set (i := 4) sc_law_row.nd rfl (.inl rfl) (pe_lst pa_nil))
      (pss_cons (ps_for PassesOwn.never rfl (pi_range1 (by rfl) mr (pa_cons (pe_call GD hr1 (by rfl) gD kD bD .nil pass0 (pa_cons (pv 0) (pa_cons (pe_op op_add (pv 2) pe_int) pa_nil))) pa_nil)) (pg_name (i := 5) sc_law_row.nd rfl (.inl rfl))
        (pss_one (ps_expr (pe_bm PySem.F.plainAttrs_list PySem.F.slot_list_append PySem.F.type_list_append mt_append (pv 4) (pa_cons (pe_call GE hr (by rfl) gE kE bE .nil pass0 (pa_cons (pv 0) (pa_cons (pe_op op_add (pv 1) (pv 5)) (pa_cons (pe_op op_sub (pv 3) (pe_call GC hr1 (by rfl) gC kC bC .nil pass0 (pa_cons (pv 4) pa_nil))) pa_nil)))) pa_nil)))))
      (pss_cons (ps_set (i := 6) sc_law_row.nd rfl (.inl rfl) (pe_op op_sub (pe_op op_add (pv 1) (pe_callB call_len_seq (by rfl) mn PySem.boot_len (pa_cons (pv 4) pa_nil))) pe_int))
      (pss_mid (ps_if (pt_cmpR op_eq (pe_call GD hr1 (by rfl) gD kD bD .nil pass0 (pa_cons (pv 0) (pa_cons pe_int pa_nil))) pe_int (nomark _)) (pss_one (ps_set (i := 6) sc_law_row.nd rfl (.inl rfl) (pe_call GD hr1 (by rfl) gD kD bD .nil pass0 (pa_cons (pv 0) (pa_cons (pe_op op_add (pv 1) (pe_callB call_len_seq (by rfl) mn PySem.boot_len (pa_cons (pv 4) pa_nil))) pa_nil))))) pss_nil)
      (pss_one (ps_ret (pe_tup (pa_cons (pv 1) (pa_cons (pe_callTy call_tuple_of (by rfl) mt (by decide +kernel) (pa_cons (pv 4) pa_nil)) (pa_cons (pv 6) pa_nil))))))))), ?_⟩
    refine ⟨Nat.zero_le _, fun D hD => ?_⟩
    have nD := ht.ne_new hD
    have sD := same_new (o := .lst []) hD
    refine ⟨.ref a, rfl, .int n, rfl, n, 1, rfl, rfl, a, n + 1, rfl, by omega, by omega, ht.upd nD, fun H1 sz z0 z1 t1 b1 => ?_⟩
    have bH : But a H H1 := (But.same sD).trans b1
    refine ⟨sz, rfl, by omega, by omega, for_range (lo := 0) (n := sz.toNat) (fun i σ H3 => ∃ y rs ds, σ = [some (.ref a), some (.int m), some (.int n), some (.int lf), some (.ref D), y, none] ∧ H3 D = some (.lst (rs.map V.ref)) ∧ DsAt H3 rs ds ∧ ds.length = i ∧ DsOk m ds ∧ (0 ≤ lf → (carN ds : Int) ≤ lf) ∧ TP H3 a ∧ But a H H3)
      ⟨none, [], [], rfl, b1 _ _ nD upd_same, .nil, rfl, ⟨fun k d e => by simp at e⟩, (fun z => z), t1, bH⟩ (fun i σ H3 hi hp => ?_) (fun σ H3 hp => ?_)⟩
    · obtain ⟨y, rs, ds, rfl, eD, hd, hl, ok, hcn, t3, b3⟩ := hp
      refine ⟨.ref D, rfl, .inl ⟨rfl, _, .inl (.inl eD)⟩, .ref a, rfl, .int m, rfl, .int (0 + i), rfl, m, 0 + i, rfl, rfl, .int lf, rfl, .ref D, rfl, D, rs, ds, rfl, .inl (.inl eD), hd, by omega, fun H4 s4 => ?_⟩
      refine ⟨lf, carN ds, rfl, rfl, a, m + (0 + i), lf - carN ds, rfl, by omega, by omega, t3.same s4, fun H5 r d hok hcalm er t5 b5 => ?_⟩
      have eD5 := b5 _ _ nD (s4 _ _ eD)
      refine ⟨D, _, _, rfl, rfl, eD5, ?_, some (.int (0 + i)), rs ++ [r], ds ++ [d], rfl, ?_, ?_, ?_, ?_, ?_, t5.upd nD, ?_⟩
      · rw [List.length_map, awLen hd]
        exact small1000 (by omega)
      · rw [upd_same, List.map_append]
        rfl
      · exact (tups_put eD5).ds (awSnoc (F := fun r d => H5 r = some (.tup (dV d))) er ((b5.tape (t3.same s4)).ds ((Same.tups s4).ds hd)))
      · rw [List.length_append, hl]
        rfl
      · refine dsOk_snoc ok ?_
        rw [hl]
        have : m + (0 + (i : Int)) = m + i := by omega
        rw [this] at hok
        exact hok
      · intro h0
        have h1 := hcn h0
        rw [carN_snoc]
        by_cases hz : d.1 ∈ twC
        · rw [if_pos hz]
          have : ¬ lf - (carN ds : Int) = 0 := fun z => hcalm z hz
          omega
        · rw [if_neg hz]
          omega
      · intro b o nb e
        have nbD : b ≠ D := ne_of_none e hD
        rw [upd_ne nbD]
        exact b5 b o nb (s4 b o (b3 b o nb e))
    · obtain ⟨y, rs, ds, rfl, eD, hd, hl, ok, hcn, t3, b3⟩ := hp
      have elen : ((rs.map V.ref).length : Int) = ds.length := by rw [List.length_map, awLen hd]
      refine ⟨.int m, rfl, .ref D, rfl, D, _, rfl, .inl (.inl (.inl eD)), m, _, rfl, rfl, _, 1, rfl, rfl, ?_⟩
      refine ⟨fun σ4 H4 => ∃ o, σ4 = [some (.ref a), some (.int m), some (.int n), some (.int lf), some (.ref D), y, some (.int o)] ∧ 0 ≤ o ∧ o < m + ds.length ∧ H4 D = some (.lst (rs.map V.ref)) ∧ DsAt H4 rs ds ∧ TP H4 a ∧ But a H H4, ?_, ?_⟩
      · refine ⟨.ref a, rfl, a, 5, rfl, by decide, by decide, t3, fun H4 u u0 u1 t4 b4 => ⟨rfl, _, rfl, ite2 (fun e => ?_) (fun e => ?_)⟩⟩
        · refine ⟨.ref a, rfl, .int m, rfl, .ref D, rfl, D, _, rfl, .inl (.inl (.inl (b4 _ _ nD eD))), m, _, rfl, rfl, a, _, rfl, by omega, by omega, t4, fun H5 o o0 o1 t5 b5 => ?_⟩
          exact ⟨o, rfl, o0, by omega, b5 _ _ nD (b4 _ _ nD eD), ((b4.tape t3).trans (b5.tape t4)).ds hd, t5, (b3.trans b4).trans b5⟩
        · exact ⟨m + ((rs.map V.ref).length : Int) - 1, rfl, by omega, by omega, b4 _ _ nD eD, (b4.tape t3).ds hd, t4, b3.trans b4⟩
      · rintro σ4 H4 ⟨o, rfl, o0, o1, eD4, hd4, t4, b4⟩
        refine ⟨.int m, rfl, .ref D, rfl, D, _, rfl, .inl ⟨.inl (.inl eD4), fun T hT => ?_⟩⟩
        refine ⟨.int o, rfl, by show 3 ≤ sizeLine; decide, fun R hR => ?_⟩
        have s1 : Same H4 (upd H4 T (.tup (rs.map V.ref))) := same_new hT
        have s2 := same_new (o := .tup [.int m, .ref T, .int o]) hR
        exact q _ R ds o ⟨T, rs, upd_same, s2 _ _ upd_same, (Same.tups (s1.trans s2)).ds hd4⟩ ⟨hm, hm2, by omega, ok, o0, by omega⟩ (by omega) hcn (t4.same (s1.trans s2)) (b4.trans (But.same (s1.trans s2)))
/-! ### first_carry -/
def spFc : Sp := fun vs H Q _ => ∃ (R : Addr) (m o : Int) (ds : List Deed), vs = [.ref R] ∧ RowAt H R m ds o ∧ ds.length ≤ 100 ∧ ∀ H' p, Same H H' → H p = none → H' p = some (.tup ((ds.map fcD).map V.int)) → Q (.ref p) H'
theorem ok_fc {f : Addr} {fd : FuncData} {k : Nat} (F : Fun K "first_carry" "first_carry" s_first_carry f fd) (mt : mg "tuple" = none) : FnOk P w K mg base CX0 (k + 1) f fd ["row"] spFc := by
  refine F.ok sc_first_carry (fun vs H Q E h => ?_) (fun cdv A outer s H vs Q E hr h => ?_)
  · obtain ⟨R, m, o, ds, rfl, _⟩ := h
    rfl
  · obtain ⟨R, m, o, ds, rfl, hrow, hl, q⟩ := h
    obtain ⟨D, rs, eR, eD, hd⟩ := id hrow
    refine ⟨_, pss_one (ps_ret (pe_callTy call_tuple_of (by rfl) mt (by decide +kernel) (pa_cons
      (pe_lc (own := [("deed", 1)]) (g := gName 1) (by rfl) sc_first_carry.nd (pi_tup (pe_ix ix_tup (pv 0) pe_int (fun _ _ => rfl))) (blkOk_by (own := [("deed", 1)]) (N := N_first_carry) (sc := defScope s_first_carry) (by decide +kernel))
        (fun _ _ _ _ _ => pg_name (i := 1) sc_first_carry.nd rfl (Or.inl rfl)) (fun _ _ _ _ _ => pts_nil)
        (fun _ _ _ _ _ => pe_ifExp (pt_cmpR (r := rIn K false) op_in_seq (pe_ix (r := rIxT K) ix_tup (pv 1) pe_int (fun _ _ => rfl)) (pe_tup (pa_cons pe_str (pa_cons pe_str pa_nil))) (by rfl)) pe_int pe_int)) pa_nil))), ?_⟩
    refine ⟨.ref R, rfl, R, _, 1, .ref D, rfl, rfl, SqT.of eR, rfl, D, rfl, ⟨_, SqT.of eD⟩, fun L hL => ?_⟩
    refine lc_tup (K := K) (a := D) (xs := rs.map V.ref) (fun i H4 => H4 L = some (.lst (((ds.take i).map fcD).map V.int)) ∧ Same H H4) ⟨upd_same, same_new hL⟩ (fun i H4 _ hp => SqT.of (hp.2 _ _ eD)) (fun i x H4 hx hp => ?_) (fun H4 hp => ?_)
    · obtain ⟨eL, sm⟩ := hp
      have hi : i < rs.length := by
        have := (List.getElem?_eq_some_iff.mp hx).1
        rwa [List.length_map] at this
      have hx' : x = .ref rs[i] := by
        rw [List.getElem?_map, List.getElem?_eq_getElem hi] at hx
        exact (Option.some.inj hx).symm
      subst hx'
      obtain ⟨d, hd1, hd2⟩ := awGet hd (List.getElem?_eq_getElem hi)
      refine ⟨rfl, .ref rs[i], rfl, rs[i], _, 0, .str d.1, rfl, rfl, SqT.of (sm _ _ hd2), dv0 d, by show 2 ≤ sizeLine; decide, fun T hT => ?_⟩
      have sT := same_new (o := .tup [.str "neg", .str "one"]) hT
      have eL2 := sT _ _ eL
      have old : ∀ o, Same H (upd (upd H4 T (.tup [.str "neg", .str "one"])) L o) := fun o b u e => by
        rw [upd_ne (ne_of_none e hL)]
        exact sT b u (sm b u e)
      have small : (((ds.take i).map fcD).map V.int).length < sizeLine := by
        rw [List.length_map, List.length_map, List.length_take]
        exact small1000 (by omega)
      have hin := inS d.1 ["neg", "one"]
      refine ⟨T, _, rfl, .inr (SqT.of upd_same), rfl, rfl, _, rfl, ite2 (fun e => ?_) (fun e => ?_)⟩
      · have hm : d.1 ∈ (["neg", "one"] : List Str) := of_decide_eq_true (hin.symm.trans e)
        have e1 : fcD d = 1 := if_pos hm
        refine ⟨_, eL2, small, ?_, old _⟩
        rw [upd_same, List.take_add_one, hd1]
        simp [e1]
      · have hm : ¬ d.1 ∈ (["neg", "one"] : List Str) := fun z => e (hin.trans (decide_eq_true z))
        have e1 : fcD d = 0 := if_neg hm
        refine ⟨_, eL2, small, ?_, old _⟩
        rw [upd_same, List.take_add_one, hd1]
        simp [e1]
    · obtain ⟨eL, sm⟩ := hp
      rw [List.length_map, awLen hd, List.take_length] at eL
      refine ⟨L, _, rfl, .inl ⟨.inl (.inl eL), fun p hp => ?_⟩⟩
      exact q _ p (sm.trans (same_new hp)) (sm.free hp) upd_same
/-! ### deed_bit, bits_of -/
def spDb (K : PySem.W.Frag) : Sp := fun vs H Q _ => ∃ (r L : Addr) (d : Deed) (told : List Int) (c : Int), vs = [.ref r, .int c, .ref L] ∧ H r = some (.tup (dV d)) ∧ SqL K H L (told.map V.int) ∧ DeedOk told.length d ∧ Q (.int (dbitAt d c told)) H
theorem ok_db {f : Addr} {fd : FuncData} {k : Nat} (F : Fun K "deed_bit" "deed_bit" s_deed_bit f fd) : FnOk P w K mg base CX0 (k + 1) f fd ["deed", "held", "told"] (spDb K) := by
  refine F.ok sc_deed_bit (fun vs H Q E h => ?_) (fun cdv A outer s H vs Q E hr h => ?_)
  · obtain ⟨r, L, d, told, c, rfl, _⟩ := h
    rfl
  · obtain ⟨r, L, d, told, c, rfl, er, eL, ok, q⟩ := h
    refine ⟨_, pss_cons (ps_set (i := 3) sc_deed_bit.nd rfl (.inl rfl) (pe_ix ix_tup (pv 0) pe_int (fun _ _ => rfl)))
      (pss_cons (ps_if (pt_cmpR op_eq (pv 3) pe_str (nomark _)) (pss_one (ps_ret pe_int)) pss_nil)
      (pss_cons (ps_if (pt_cmpR op_eq (pv 3) pe_str (nomark _)) (pss_one (ps_ret pe_int)) pss_nil)
      (pss_cons (ps_if (PW.pt (pw_or (pt_cmpR op_eq (pv 3) pe_str (nomark _)) (pw_or1 (pt_cmpR op_eq (pv 3) pe_str (nomark _))))) (pss_one (ps_ret (pv 1))) pss_nil)
      (pss_cons (ps_set (i := 4) sc_deed_bit.nd rfl (.inl rfl) (pe_ix ix_list (pv 2) (pe_ix ix_tup (pv 0) pe_int (fun _ _ => rfl)) (fun _ _ => rfl)))
      (pss_cons (ps_if (pt_cmpR op_eq (pv 3) pe_str (nomark _)) (pss_one (ps_ret (pe_op op_sub pe_int (pv 4)))) pss_nil)
      (pss_cons (ps_if (pt_cmpR op_eq (pv 3) pe_str (nomark _)) (pss_one (ps_ret (pe_op op_xor (pe_op op_sub pe_int (pv 4)) (pv 1)))) pss_nil)
      (pss_cons (ps_set (i := 5) sc_deed_bit.nd rfl (.inl rfl) (pe_ix ix_list (pv 2) (pe_ix ix_tup (pv 0) pe_int (fun _ _ => rfl)) (fun _ _ => rfl)))
      (pss_cons (ps_if (pt_cmpR op_eq (pv 3) pe_str (nomark _)) (pss_one (ps_ret (pe_op op_and (pv 4) (pv 5)))) pss_nil)
      (pss_cons (ps_if (pt_cmpR op_eq (pv 3) pe_str (nomark _)) (pss_one (ps_ret (pe_op op_or (pv 4) (pv 5)))) pss_nil)
      (pss_cons (ps_if (pt_cmpR op_eq (pv 3) pe_str (nomark _)) (pss_one (ps_ret (pe_op op_xor (pv 4) (pv 5)))) pss_nil)
      (pss_one (ps_ret (pe_op op_xor (pe_op op_xor (pv 4) (pv 5)) (pv 1)))))))))))))), ?_⟩
    unfold dbitAt dbit at q
    refine ⟨.ref r, rfl, r, _, 0, .str d.1, rfl, rfl, SqT.of er, dv0 d, ?_⟩
    refine ⟨.str d.1, rfl, rfl, _, rfl, ite2 (fun e => ?_) (fun n1 => ?_)⟩
    · rw [if_pos (strEq e)] at q
      exact q
    rw [if_neg (strNe n1)] at q
    refine ⟨.str d.1, rfl, rfl, _, rfl, ite2 (fun e => ?_) (fun n2 => ?_)⟩
    · rw [if_pos (strEq e)] at q
      exact q
    rw [if_neg (strNe n2)] at q
    refine ⟨.str d.1, rfl, rfl, _, rfl, ite2 (fun e => ?_) (fun n3 => ?_)⟩
    · rw [if_pos (strEq e)] at q
      exact ⟨.int c, rfl, q⟩
    rw [if_neg (strNe n3)] at q
    refine ⟨.str d.1, rfl, rfl, _, rfl, ite2 (fun e => ?_) (fun n4 => ?_)⟩
    · rw [if_pos (strEq e)] at q
      exact ⟨.int c, rfl, q⟩
    rw [if_neg (strNe n4)] at q
    obtain ⟨i, hi, ai, ei⟩ := arg1 ok (strNe n1) (strNe n3) (strNe n2)
    refine ⟨.ref L, rfl, .ref r, rfl, r, _, 1, .int i, rfl, rfl, SqT.of er, dvN (k := 0) hi, L, _, i, .int (argAt d told 0), rfl, rfl, eL, ei, ?_⟩
    refine ⟨.str d.1, rfl, rfl, _, rfl, ite2 (fun e => ?_) (fun n5 => ?_)⟩
    · rw [if_pos (strEq e)] at q
      exact ⟨.int _, rfl, 1, _, rfl, rfl, q⟩
    rw [if_neg (strNe n5)] at q
    refine ⟨.str d.1, rfl, rfl, _, rfl, ite2 (fun e => ?_) (fun n6 => ?_)⟩
    · rw [if_pos (strEq e)] at q
      exact ⟨.int _, rfl, 1, _, rfl, rfl, .int c, rfl, _, _, rfl, rfl, q⟩
    rw [if_neg (strNe n6)] at q
    obtain ⟨j, hj, aj, ej⟩ := arg2 ok (strNe n1) (strNe n3) (strNe n2) (strNe n5) (strNe n6) (strNe n4)
    refine ⟨.ref L, rfl, .ref r, rfl, r, _, 2, .int j, rfl, rfl, SqT.of er, dvN (k := 1) hj, L, _, j, .int (argAt d told 1), rfl, rfl, eL, ej, ?_⟩
    refine ⟨.str d.1, rfl, rfl, _, rfl, ite2 (fun e => ?_) (fun n7 => ?_)⟩
    · rw [if_pos (strEq e)] at q
      exact ⟨.int _, rfl, .int _, rfl, _, _, rfl, rfl, q⟩
    rw [if_neg (strNe n7)] at q
    refine ⟨.str d.1, rfl, rfl, _, rfl, ite2 (fun e => ?_) (fun n8 => ?_)⟩
    · rw [if_pos (strEq e)] at q
      exact ⟨.int _, rfl, .int _, rfl, _, _, rfl, rfl, q⟩
    rw [if_neg (strNe n8)] at q
    refine ⟨.str d.1, rfl, rfl, _, rfl, ite2 (fun e => ?_) (fun n9 => ?_)⟩
    · rw [if_pos (strEq e)] at q
      exact ⟨.int _, rfl, .int _, rfl, _, _, rfl, rfl, q⟩
    rw [if_neg (strNe n9)] at q
    exact ⟨.int _, rfl, .int _, rfl, _, _, rfl, rfl, .int c, rfl, _, _, rfl, rfl, q⟩
def spBo : Sp := fun vs H Q _ => ∃ (R C B : Addr) (m o : Int) (ds : List Deed) (cs bs : List Int), vs = [.ref R, .ref C, .ref B] ∧ RowAt H R m ds o ∧ DsOk m ds ∧ ds.length ≤ 100 ∧ H C = some (.tup (cs.map V.int)) ∧ cs.length = ds.length ∧ H B = some (.tup (bs.map V.int)) ∧ (bs.length : Int) = m ∧ bs.length ≤ 100 ∧
  ∀ H' p, Same H H' → H p = none → H' p = some (.tup ((bts ds cs bs).map V.int)) → Q (.ref p) H'
theorem ok_bo {f fB : Addr} {fd fdB : FuncData} {k : Nat} (F : Fun K "bits_of" "bits_of" s_bits_of f fd) (GB : FnOk P w K mg base CX0 (k + 1) fB fdB ["deed", "held", "told"] (spDb K)) (kB : PySem.W.keepIn K (.ref fB) = true) (bB : Binds K fdB ["deed", "held", "told"] []) (gB : mg "deed_bit" = some (.ref fB))
    (ml : mg "list" = none) (mt : mg "tuple" = none) (mz : mg "zip" = none) : FnOk P w K mg base CX0 (k + 2) f fd ["row", "carry", "bits"] spBo := by
  refine F.ok sc_bits_of (fun vs H Q E h => ?_) (fun cdv A outer s H vs Q E hr h => ?_)
  · obtain ⟨R, C, B, m, o, ds, cs, bs, rfl, _⟩ := h
    rfl
  · obtain ⟨R, C, B, m, o, ds, cs, bs, rfl, hrow, hok, hds, eC, hcl, eB, hm, hbl, q⟩ := h
    obtain ⟨D, rs, eR, eD, hd⟩ := id hrow
    refine ⟨_, pss_cons (ps_set (i := 3) sc_bits_of.nd rfl (.inl rfl) (pe_callTy call_list_of (by rfl) ml (by decide +kernel) (pa_cons (pv 2) pa_nil)))
      (pss_cons (ps_for PassesOwn.never rfl (RZ.pi_zipA (by rfl) mz (pa_cons (pe_ix ix_tup (pv 0) pe_int (fun _ _ => rfl)) (pa_cons (pv 1) pa_nil))) (pg_tup rfl (pgs_cons (pg_name (i := 4) sc_bits_of.nd rfl (.inl rfl)) (pgs_cons (pg_name (i := 5) sc_bits_of.nd rfl (.inl rfl)) pgs_nil)))
        (pss_one (ps_expr (pe_bm PySem.F.plainAttrs_list PySem.F.slot_list_append PySem.F.type_list_append mt_append (pv 3) (pa_cons (pe_call GB hr (by rfl) gB kB bB .nil pass0 (pa_cons (pv 4) (pa_cons (pv 5) (pa_cons (pv 3) pa_nil)))) pa_nil)))))
      (pss_one (ps_ret (pe_callTy call_tuple_of (by rfl) mt (by decide +kernel) (pa_cons (pv 3) pa_nil))))), ?_⟩
    refine ⟨.ref B, rfl, B, _, rfl, .inr (SqT.of eB), fun L hL => ?_⟩
    have sL := same_new (o := .lst (bs.map V.int)) hL
    have lrs : (rs.map V.ref).length = ds.length := by rw [List.length_map, awLen hd]
    have lcs : (cs.map V.int).length = ds.length := by rw [List.length_map, hcl]
    refine ⟨.ref R, rfl, R, _, 1, .ref D, rfl, rfl, SqT.of (sL _ _ eR), rfl, .ref C, rfl, D, C, _, _, rfl, .inr ⟨SqT.of (sL _ _ eD), SqT.of (sL _ _ eC), RZ.for_zipT (K := K) (xs := rs.map V.ref) (ys := cs.map V.int) (lrs.trans lcs.symm) (fun i σ H3 => ∃ y4 y5, σ = [some (.ref R), some (.ref C), some (.ref B), some (.ref L), y4, y5] ∧ H3 L = some (.lst ((bts (ds.take i) (cs.take i) bs).map V.int)) ∧ Same H H3) ⟨none, none, rfl, by rw [upd_same]; cases ds <;> rfl, sL⟩ (fun i σ H3 hp => ?_) (fun i x y T σ H3 hx hy hp hT => ?_) (fun σ H3 hp => ?_)⟩⟩
    · obtain ⟨_, _, _, _, sm⟩ := hp
      exact ⟨SqT.of (sm _ _ eD), SqT.of (sm _ _ eC)⟩
    · obtain ⟨y4, y5, rfl, e3, sm⟩ := hp
      have hi : i < rs.length := by
        have := (List.getElem?_eq_some_iff.mp hx).1
        rwa [List.length_map] at this
      have hx' : x = .ref rs[i] := by
        rw [List.getElem?_map, List.getElem?_eq_getElem hi] at hx
        exact (Option.some.inj hx).symm
      subst hx'
      obtain ⟨d, hd1, hd2⟩ := awGet hd (List.getElem?_eq_getElem hi)
      obtain ⟨c, hc, rfl⟩ : ∃ c, cs[i]? = some c ∧ y = .int c := by
        rw [List.getElem?_map] at hy
        cases e : cs[i]? with
        | none => rw [e] at hy; cases hy
        | some c => rw [e] at hy; exact ⟨c, rfl, (Option.some.inj hy).symm⟩
      have h2 : i < ds.length := by
        rw [← awLen hd]
        exact hi
      have hlen : (bts (ds.take i) (cs.take i) bs).length = bs.length + i := by
        rw [bts_len (by rw [List.length_take, List.length_take, hcl]), List.length_take, Nat.min_eq_left (Nat.le_of_lt h2)]
      have okd : DeedOk (bts (ds.take i) (cs.take i) bs).length d := by
        rw [hlen]
        have := hok.each i d hd1
        rw [← hm] at this
        exact this
      have sT := same_new (o := .tup [.ref rs[i], .int c]) hT
      have e4 := sT _ _ e3
      refine ⟨T, [.ref rs[i], .int c], rfl, .inl (.inl upd_same), rfl, .ref rs[i], [.int c], rfl, .int c, [], rfl, rfl, ?_⟩
      refine ⟨.ref L, rfl, .inl ⟨rfl, _, .inl (.inl e4)⟩, .ref rs[i], rfl, .int c, rfl, .ref L, rfl, rs[i], L, d, _, c, rfl, sT _ _ (sm _ _ hd2), .inl (.inl e4), okd, L, _, _, rfl, rfl, e4, ?_, some (.ref rs[i]), some (.int c), rfl, ?_, ?_⟩
      · rw [List.length_map, hlen]
        exact small1000 (by omega)
      · rw [upd_same, bts_next hd1 hc, List.map_append]
        rfl
      · intro b u e
        rw [upd_ne (ne_of_none e hL)]
        exact sT b u (sm b u e)
    · obtain ⟨y4, y5, rfl, e3, sm⟩ := hp
      rw [lrs, List.take_length, ← hcl, List.take_length] at e3
      refine ⟨.ref L, rfl, L, _, rfl, .inl ⟨.inl (.inl e3), fun p hp => ?_⟩⟩
      exact q _ p (sm.trans (same_new hp)) (sm.free hp) upd_same
/-! ### two_or_more, deed_carry -/
def spTm : Sp := fun vs H Q _ => ∃ a b c : Int, vs = [.int a, .int b, .int c] ∧ Q (.int ((a + b + c) / 2)) H
theorem ok_tm {f : Addr} {fd : FuncData} {k : Nat} (F : Fun K "two_or_more" "two_or_more" s_two_or_more f fd) : FnOk P w K mg base CX0 (k + 1) f fd ["one", "other", "third"] spTm := by
  refine F.ok sc_two_or_more (fun vs H Q E h => ?_) (fun cdv A outer s H vs Q E hr h => ?_)
  · obtain ⟨a, b, c, rfl, _⟩ := h
    rfl
  · obtain ⟨a, b, c, rfl, q⟩ := h
    refine ⟨_, pss_one (ps_ret (pe_op op_fdiv (pe_op op_add (pe_op op_add (pv 0) (pv 1)) (pv 2)) pe_int)), ?_⟩
    exact ⟨.int a, rfl, .int b, rfl, a, b, rfl, rfl, .int c, rfl, _, c, rfl, rfl, _, 2, rfl, rfl, ⟨by decide, by decide⟩, q⟩
def spDc : Sp := fun vs H Q _ => ∃ (r L : Addr) (d : Deed) (told : List Int) (c : Int), vs = [.ref r, .int c, .ref L] ∧ H r = some (.tup (dV d)) ∧ H L = some (.tup (told.map V.int)) ∧ DeedOk told.length d ∧ Q (.int (dcarAt d c told)) H
theorem ok_dc {f fT : Addr} {fd fdT : FuncData} {k : Nat} (F : Fun K "deed_carry" "deed_carry" s_deed_carry f fd) (GT : FnOk P w K mg base CX0 (k + 1) fT fdT ["one", "other", "third"] spTm) (kT : PySem.W.keepIn K (.ref fT) = true) (bT : Binds K fdT ["one", "other", "third"] []) (gT : mg "two_or_more" = some (.ref fT)) :
    FnOk P w K mg base CX0 (k + 2) f fd ["deed", "held", "told"] spDc := by
  refine F.ok sc_deed_carry (fun vs H Q E h => ?_) (fun cdv A outer s H vs Q E hr h => ?_)
  · obtain ⟨r, L, d, told, c, rfl, _⟩ := h
    rfl
  · obtain ⟨r, L, d, told, c, rfl, er, eL, ok, q⟩ := h
    refine ⟨_, pss_cons (ps_set (i := 3) sc_deed_carry.nd rfl (.inl rfl) (pe_ix ix_tup (pv 0) pe_int (fun _ _ => rfl)))
      (pss_cons (ps_if (pt_cmpR op_eq (pv 3) pe_str (nomark _)) (pss_one (ps_ret (pe_op op_and (pe_op op_sub pe_int (pe_ix ix_tup (pv 2) (pe_ix ix_tup (pv 0) pe_int (fun _ _ => rfl)) (fun _ _ => rfl))) (pv 1)))) pss_nil)
      (pss_cons (ps_if (pt_cmpR op_eq (pv 3) pe_str (nomark _)) (pss_one (ps_ret (pe_ix ix_tup (pv 2) (pe_ix ix_tup (pv 0) pe_int (fun _ _ => rfl)) (fun _ _ => rfl)))) pss_nil)
      (pss_cons (ps_if (pt_cmpR op_eq (pv 3) pe_str (nomark _)) (pss_one (ps_ret (pe_call GT hr (by rfl) gT kT bT .nil pass0 (pa_cons (pe_ix ix_tup (pv 2) (pe_ix ix_tup (pv 0) pe_int (fun _ _ => rfl)) (fun _ _ => rfl)) (pa_cons (pe_ix ix_tup (pv 2) (pe_ix ix_tup (pv 0) pe_int (fun _ _ => rfl)) (fun _ _ => rfl)) (pa_cons (pv 1) pa_nil)))))) pss_nil)
      (pss_cons (ps_if (pt_cmpR op_eq (pv 3) pe_str (nomark _)) (pss_one (ps_ret (pe_call GT hr (by rfl) gT kT bT .nil pass0 (pa_cons (pe_op op_sub pe_int (pe_ix ix_tup (pv 2) (pe_ix ix_tup (pv 0) pe_int (fun _ _ => rfl)) (fun _ _ => rfl))) (pa_cons (pe_ix ix_tup (pv 2) (pe_ix ix_tup (pv 0) pe_int (fun _ _ => rfl)) (fun _ _ => rfl)) (pa_cons (pv 1) pa_nil)))))) pss_nil)
      (pss_one (ps_ret pe_int)))))), ?_⟩
    unfold dcarAt dcar at q
    have lL : SqT K H L (told.map V.int) := SqT.of eL
    refine ⟨.ref r, rfl, r, _, 0, .str d.1, rfl, rfl, SqT.of er, dv0 d, ?_⟩
    refine ⟨.str d.1, rfl, rfl, _, rfl, ite2 (fun e => ?_) (fun n1 => ?_)⟩
    · rw [if_pos (strEq e)] at q
      have e2 := strEq e
      obtain ⟨i, hi, ai, ei⟩ := arg1 ok (by rw [e2]; decide +kernel) (by rw [e2]; decide +kernel) (by rw [e2]; decide +kernel)
      exact ⟨.ref L, rfl, .ref r, rfl, r, _, 1, .int i, rfl, rfl, SqT.of er, dvN (k := 0) hi, L, _, i, _, rfl, rfl, lL, ei, 1, _, rfl, rfl, .int c, rfl, _, _, rfl, rfl, q⟩
    rw [if_neg (strNe n1)] at q
    refine ⟨.str d.1, rfl, rfl, _, rfl, ite2 (fun e => ?_) (fun n2 => ?_)⟩
    · rw [if_pos (strEq e)] at q
      have e2 := strEq e
      obtain ⟨i, hi, ai, ei⟩ := arg1 ok (by rw [e2]; decide +kernel) (by rw [e2]; decide +kernel) (by rw [e2]; decide +kernel)
      exact ⟨.ref L, rfl, .ref r, rfl, r, _, 1, .int i, rfl, rfl, SqT.of er, dvN (k := 0) hi, L, _, i, _, rfl, rfl, lL, ei, q⟩
    rw [if_neg (strNe n2)] at q
    refine ⟨.str d.1, rfl, rfl, _, rfl, ite2 (fun e => ?_) (fun n3 => ?_)⟩
    · rw [if_pos (strEq e)] at q
      have e2 := strEq e
      obtain ⟨i, hi, ai, ei⟩ := arg1 ok (by rw [e2]; decide +kernel) (by rw [e2]; decide +kernel) (by rw [e2]; decide +kernel)
      obtain ⟨j, hj, aj, ej⟩ := arg2 ok (by rw [e2]; decide +kernel) (by rw [e2]; decide +kernel) (by rw [e2]; decide +kernel) (by rw [e2]; decide +kernel) (by rw [e2]; decide +kernel) (by rw [e2]; decide +kernel)
      exact ⟨.ref L, rfl, .ref r, rfl, r, _, 1, .int i, rfl, rfl, SqT.of er, dvN (k := 0) hi, L, _, i, _, rfl, rfl, lL, ei, .ref L, rfl, .ref r, rfl, r, _, 2, .int j, rfl, rfl, SqT.of er, dvN (k := 1) hj, L, _, j, _, rfl, rfl, lL, ej, .int c, rfl, _, _, c, rfl, q⟩
    rw [if_neg (strNe n3)] at q
    refine ⟨.str d.1, rfl, rfl, _, rfl, ite2 (fun e => ?_) (fun n4 => ?_)⟩
    · rw [if_pos (strEq e)] at q
      have e2 := strEq e
      obtain ⟨i, hi, ai, ei⟩ := arg1 ok (by rw [e2]; decide +kernel) (by rw [e2]; decide +kernel) (by rw [e2]; decide +kernel)
      obtain ⟨j, hj, aj, ej⟩ := arg2 ok (by rw [e2]; decide +kernel) (by rw [e2]; decide +kernel) (by rw [e2]; decide +kernel) (by rw [e2]; decide +kernel) (by rw [e2]; decide +kernel) (by rw [e2]; decide +kernel)
      exact ⟨.ref L, rfl, .ref r, rfl, r, _, 1, .int i, rfl, rfl, SqT.of er, dvN (k := 0) hi, L, _, i, _, rfl, rfl, lL, ei, 1, _, rfl, rfl, .ref L, rfl, .ref r, rfl, r, _, 2, .int j, rfl, rfl, SqT.of er, dvN (k := 1) hj, L, _, j, _, rfl, rfl, lL, ej, .int c, rfl, _, _, c, rfl, q⟩
    rw [if_neg (strNe n4)] at q
    exact q
theorem okd_more {m : Int} {i n : Nat} {d : Deed} (h : DeedOk (m + i) d) (hn : m + i ≤ n) : DeedOk n d := ⟨h.word, fun z hz => ⟨(h.ahead z hz).1, by have := (h.ahead z hz).2; omega⟩⟩
/-! ### bits tell values -/
def bitA (t : Nat) (x : Int) : Int := x / 2 ^ t % 2
theorem bitA_bit (t : Nat) (x : Int) : Bit (bitA t x) := by
  have h0 := Int.emod_nonneg (x / 2 ^ t) (show (2 : Int) ≠ 0 by decide)
  have h1 := Int.emod_lt_of_pos (x / 2 ^ t) (show (0 : Int) < 2 by decide)
  unfold bitA Bit
  omega
/-- the bit at p -/
theorem bit_at {V p u k r : Int} (hp : 0 < p) (h : V = p * (2 * u + k) + r) (r0 : 0 ≤ r) (r1 : r < p) : V / p % 2 = k % 2 := by
  have e : V / p = 2 * u + k := by
    rw [h, Int.add_comm, Int.add_mul_ediv_left _ _ (by omega), Int.ediv_eq_zero_of_lt r0 r1, Int.zero_add]
  rw [e]
  omega
theorem bit_val {k : Int} (h : Bit k) : k % 2 = k := by rcases h with rfl | rfl <;> decide
theorem low_next (A : Int) {p : Int} (hp : 0 < p) : A % (2 * p) = p * (A / p % 2) + A % p := by
  have e := Int.mul_ediv_add_emod A p
  have e2 := Int.mul_ediv_add_emod (A / p) 2
  have r0 := Int.emod_nonneg A (show p ≠ 0 by omega)
  have r1 := Int.emod_lt_of_pos A hp
  have hb := bitA_bit 0 (A / p)
  have b : A / p % 2 = 0 ∨ A / p % 2 = 1 := by omega
  have e3 : A = 2 * p * (A / p / 2) + (p * (A / p % 2) + A % p) := by
    have z : p * (A / p) = p * (2 * (A / p / 2) + A / p % 2) := by rw [e2]
    rw [Int.mul_add, ← Int.mul_assoc, Int.mul_comm p 2] at z
    omega
  have s0 : 0 ≤ p * (A / p % 2) + A % p := by rcases b with b | b <;> rw [b] <;> omega
  have s1 : p * (A / p % 2) + A % p < 2 * p := by rcases b with b | b <;> rw [b] <;> omega
  generalize p * (A / p % 2) + A % p = s at e3 s0 s1
  rw [e3, Int.mul_add_emod_self_left, Int.emod_eq_of_lt s0 s1]
/-- what is carried into the bit at p -/
def CI (x : Str) (A B p c : Int) : Prop :=
  if x = "add" then ∃ r, A % p + B % p = p * c + r ∧ 0 ≤ r ∧ r < p
  else if x = "sub" then ∃ r, A % p - B % p = r - p * c ∧ 0 ≤ r ∧ r < p
  else if x = "neg" then ∃ r, -(A % p) = r - p * (1 - c) ∧ 0 ≤ r ∧ r < p
  else if x = "twice" then ∃ r, A % p + A % p = p * c + r ∧ 0 ≤ r ∧ r < p
  else if x = "one" then c = if p = 1 then 1 else 0
  else c = 0
theorem ci_first (d : Deed) (A B : Int) : CI d.1 A B 1 (fcD d) := by
  unfold CI fcD
  rw [Int.emod_one, Int.emod_one]
  by_cases h1 : d.1 = "add"
  · rw [if_pos h1, h1]
    exact ⟨0, by decide, by decide, by decide⟩
  rw [if_neg h1]
  by_cases h2 : d.1 = "sub"
  · rw [if_pos h2, h2]
    exact ⟨0, by decide, by decide, by decide⟩
  rw [if_neg h2]
  by_cases h3 : d.1 = "neg"
  · rw [if_pos h3, h3]
    exact ⟨0, by decide, by decide, by decide⟩
  rw [if_neg h3]
  by_cases h4 : d.1 = "twice"
  · rw [if_pos h4, h4]
    exact ⟨0, by decide, by decide, by decide⟩
  rw [if_neg h4]
  by_cases h5 : d.1 = "one"
  · rw [if_pos h5, h5]
    decide
  rw [if_neg h5, if_neg (by simp [h3, h5])]
theorem ci_next {x : Str} {A B p c : Int} (hp : 0 < p) (hc : Bit c) (h : CI x A B p c) : CI x A B (2 * p) (dcar x (A / p % 2) (B / p % 2) c) := by
  have ba : Bit (A / p % 2) := by unfold Bit; omega
  have bb : Bit (B / p % 2) := by unfold Bit; omega
  have la := low_next A hp
  have lb := low_next B hp
  have a0 := Int.emod_nonneg A (show p ≠ 0 by omega)
  have a1 := Int.emod_lt_of_pos A hp
  generalize A / p % 2 = α at la ba
  generalize B / p % 2 = β at lb bb
  unfold CI at h ⊢
  rw [la, lb]
  generalize A % p = a at h a0 a1
  generalize B % p = b at h
  by_cases h1 : x = "add"
  · subst h1
    rw [if_pos rfl] at h ⊢
    obtain ⟨r, e, r0, r1⟩ := h
    rcases ba with rfl | rfl <;> rcases bb with rfl | rfl <;> rcases hc with rfl | rfl
    · exact ⟨r, by show _ = 2 * p * 0 + r; omega, r0, by omega⟩
    · exact ⟨p + r, by show _ = 2 * p * 0 + (p + r); omega, by omega, by omega⟩
    · exact ⟨p + r, by show _ = 2 * p * 0 + (p + r); omega, by omega, by omega⟩
    · exact ⟨r, by show _ = 2 * p * 1 + r; omega, r0, by omega⟩
    · exact ⟨p + r, by show _ = 2 * p * 0 + (p + r); omega, by omega, by omega⟩
    · exact ⟨r, by show _ = 2 * p * 1 + r; omega, r0, by omega⟩
    · exact ⟨r, by show _ = 2 * p * 1 + r; omega, r0, by omega⟩
    · exact ⟨p + r, by show _ = 2 * p * 1 + (p + r); omega, by omega, by omega⟩
  rw [if_neg h1] at h ⊢
  by_cases h2 : x = "sub"
  · subst h2
    rw [if_pos rfl] at h ⊢
    obtain ⟨r, e, r0, r1⟩ := h
    rcases ba with rfl | rfl <;> rcases bb with rfl | rfl <;> rcases hc with rfl | rfl
    · exact ⟨r, by show _ = r - 2 * p * 0; omega, r0, by omega⟩
    · exact ⟨p + r, by show _ = (p + r) - 2 * p * 1; omega, by omega, by omega⟩
    · exact ⟨p + r, by show _ = (p + r) - 2 * p * 1; omega, by omega, by omega⟩
    · exact ⟨r, by show _ = r - 2 * p * 1; omega, r0, by omega⟩
    · exact ⟨p + r, by show _ = (p + r) - 2 * p * 0; omega, by omega, by omega⟩
    · exact ⟨r, by show _ = r - 2 * p * 0; omega, r0, by omega⟩
    · exact ⟨r, by show _ = r - 2 * p * 0; omega, r0, by omega⟩
    · exact ⟨p + r, by show _ = (p + r) - 2 * p * 1; omega, by omega, by omega⟩
  rw [if_neg h2] at h ⊢
  by_cases h3 : x = "neg"
  · subst h3
    rw [if_pos rfl] at h ⊢
    obtain ⟨r, e, r0, r1⟩ := h
    rcases ba with rfl | rfl <;> rcases hc with rfl | rfl
    · exact ⟨p + r, by show _ = (p + r) - 2 * p * (1 - 0); omega, by omega, by omega⟩
    · exact ⟨r, by show _ = r - 2 * p * (1 - 1); omega, r0, by omega⟩
    · exact ⟨r, by show _ = r - 2 * p * (1 - 0); omega, r0, by omega⟩
    · exact ⟨p + r, by show _ = (p + r) - 2 * p * (1 - 0); omega, by omega, by omega⟩
  rw [if_neg h3] at h ⊢
  by_cases h4 : x = "twice"
  · subst h4
    rw [if_pos rfl] at h ⊢
    obtain ⟨r, e, r0, r1⟩ := h
    rcases ba with rfl | rfl
    · exact ⟨a + a, by show _ = 2 * p * 0 + (a + a); omega, by omega, by omega⟩
    · exact ⟨a + a, by show _ = 2 * p * 1 + (a + a); omega, by omega, by omega⟩
  rw [if_neg h4] at h ⊢
  have hz : dcar x α β c = 0 := by
    unfold dcar
    rw [if_neg h3, if_neg h4, if_neg h1, if_neg h2]
  by_cases h5 : x = "one"
  · rw [if_pos h5, hz, if_neg (by omega)]
  · rw [if_neg h5, hz]
theorem nat_bits {a b t : Nat} : ((a &&& b) / 2 ^ t % 2 = (a / 2 ^ t % 2) &&& (b / 2 ^ t % 2)) ∧ ((a ||| b) / 2 ^ t % 2 = (a / 2 ^ t % 2) ||| (b / 2 ^ t % 2)) ∧ ((a ^^^ b) / 2 ^ t % 2 = (a / 2 ^ t % 2) ^^^ (b / 2 ^ t % 2)) := by
  refine ⟨?_, ?_, ?_⟩
  · rw [← Nat.shiftRight_eq_div_pow, ← Nat.shiftRight_eq_div_pow, ← Nat.shiftRight_eq_div_pow, Nat.shiftRight_and_distrib]
    exact Nat.and_mod_two_pow (n := 1)
  · rw [← Nat.shiftRight_eq_div_pow, ← Nat.shiftRight_eq_div_pow, ← Nat.shiftRight_eq_div_pow, Nat.shiftRight_or_distrib]
    exact Nat.or_mod_two_pow (n := 1)
  · rw [← Nat.shiftRight_eq_div_pow, ← Nat.shiftRight_eq_div_pow, ← Nat.shiftRight_eq_div_pow, Nat.shiftRight_xor_distrib]
    exact Nat.xor_mod_two_pow (n := 1)
theorem cast_bit (a t : Nat) : bitA t (a : Int) = ((a / 2 ^ t % 2 : Nat) : Int) := by
  unfold bitA
  rw [pw_cast]
  omega
theorem bit_land {A B : Int} (t : Nat) (ha : 0 ≤ A) (hb : 0 ≤ B) : bitA t (Builtin.bitAnd A B) = Builtin.bitAnd (bitA t A) (bitA t B) := by
  obtain ⟨a, rfl⟩ := Int.eq_ofNat_of_zero_le ha
  obtain ⟨b, rfl⟩ := Int.eq_ofNat_of_zero_le hb
  rw [cast_bit, cast_bit, bitAnd_pp (Int.natCast_nonneg _) (Int.natCast_nonneg _), bitAnd_pp (Int.natCast_nonneg _) (Int.natCast_nonneg _)]
  simp only [Int.toNat_natCast]
  rw [cast_bit, nat_bits.1]
theorem bit_lor {A B : Int} (t : Nat) (ha : 0 ≤ A) (hb : 0 ≤ B) : bitA t (Builtin.bitOr A B) = Builtin.bitOr (bitA t A) (bitA t B) := by
  obtain ⟨a, rfl⟩ := Int.eq_ofNat_of_zero_le ha
  obtain ⟨b, rfl⟩ := Int.eq_ofNat_of_zero_le hb
  rw [cast_bit, cast_bit, bitOr_nn (Int.natCast_nonneg _) (Int.natCast_nonneg _), bitOr_nn (Int.natCast_nonneg _) (Int.natCast_nonneg _)]
  simp only [Int.toNat_natCast]
  rw [cast_bit, nat_bits.2.1]
theorem bit_lxor {A B : Int} (t : Nat) (ha : 0 ≤ A) (hb : 0 ≤ B) : bitA t (Builtin.bitXor A B) = Builtin.bitXor (bitA t A) (bitA t B) := by
  obtain ⟨a, rfl⟩ := Int.eq_ofNat_of_zero_le ha
  obtain ⟨b, rfl⟩ := Int.eq_ofNat_of_zero_le hb
  rw [cast_bit, cast_bit, Bits.bitXor_pp (Int.natCast_nonneg _) (Int.natCast_nonneg _), Bits.bitXor_pp (Int.natCast_nonneg _) (Int.natCast_nonneg _)]
  simp only [Int.toNat_natCast]
  rw [cast_bit, nat_bits.2.2]
theorem dbit_tells {x : Str} {A B c : Int} {t n : Nat} (hx : x ∈ fwL.map (·.1)) (ht : t < n) (ha : 0 ≤ A) (hb : 0 ≤ B) (hc : Bit c) (h : CI x A B (2 ^ t) c) : dbit x (bitA t A) (bitA t B) c = bitA t (dvalue x A B (2 ^ n)) := by
  have hp := pw_pos t
  have eA := Int.mul_ediv_add_emod A (2 ^ t)
  have eB := Int.mul_ediv_add_emod B (2 ^ t)
  have qa := Int.mul_ediv_add_emod (A / 2 ^ t) 2
  have qb := Int.mul_ediv_add_emod (B / 2 ^ t) 2
  have a0 := Int.emod_nonneg A (show (2 : Int) ^ t ≠ 0 by omega)
  have a1 := Int.emod_lt_of_pos A hp
  have b0 := Int.emod_nonneg B (show (2 : Int) ^ t ≠ 0 by omega)
  have b1 := Int.emod_lt_of_pos B hp
  have ba := bitA_bit t A
  have bb := bitA_bit t B
  obtain ⟨N', hN⟩ : ∃ N' : Int, (2 : Int) ^ n = 2 ^ t * (2 * N') := by
    refine ⟨2 ^ (n - t - 1), ?_⟩
    rw [show n = t + 1 + (n - t - 1) by omega, Int.pow_add, Int.pow_succ, Int.mul_assoc]
    congr 3
    omega
  have land := bit_land t ha hb
  have lor := bit_lor t ha hb
  have lxor := bit_lxor t ha hb
  have tt : bitA t (A + A) = (A + A) / 2 ^ t % 2 := rfl
  rw [hN]
  unfold CI at h
  have p1 : (2 : Int) ^ t = 1 ∨ 2 ≤ (2 : Int) ^ t := by omega
  unfold bitA at ba bb ⊢
  unfold bitA at land lor lxor
  clear tt hN
  generalize (2 : Int) ^ t = p at *
  generalize hα : A / p % 2 = α at *
  generalize hβ : B / p % 2 = β at *
  generalize A % p = a at *
  generalize B % p = b at *
  generalize A / p / 2 = A' at *
  generalize B / p / 2 = B' at *
  have dA : A = p * (2 * A' + α) + a := by rw [qa]; omega
  have dB : B = p * (2 * B' + β) + b := by rw [qb]; omega
  have mA := Int.mul_add p (2 * A') α
  have mB := Int.mul_add p (2 * B') β
  simp only [fwL, List.map_cons, List.map_nil, List.mem_cons, List.not_mem_nil, or_false] at hx
  rcases hx with rfl | rfl | rfl | rfl | rfl | rfl | rfl | rfl | rfl | rfl | rfl
  · show (0 : Int) = 0 / p % 2
    rw [Int.zero_ediv]
    rfl
  · show c = 1 / p % 2
    have hc1 : c = if p = 1 then 1 else 0 := h
    rcases p1 with p1 | p1
    · rw [hc1, if_pos p1, p1]
      decide
    · rw [hc1, if_neg (by omega), Int.ediv_eq_zero_of_lt (by omega) (by omega)]
      rfl
  · show (1 : Int) = (p * (2 * N') - 1) / p % 2
    rw [bit_at (u := N' - 1) (k := 1) (r := p - 1) hp (by rw [Int.mul_add, Int.mul_sub, Int.mul_sub]; omega) (by omega) (by omega)]
    decide
  · show 1 - α = (p * (2 * N') - 1 - A) / p % 2
    have e : p * (2 * (N' - 1 - A') + (1 - α)) = p * (2 * N') - p * (2 * A') - p * α - p := by
      rw [Int.mul_add, Int.mul_sub 2, Int.mul_sub 2, Int.mul_sub p, Int.mul_sub p, Int.mul_sub p]
      omega
    rw [bit_at (u := N' - 1 - A') (k := 1 - α) (r := p - 1 - a) hp (by rw [e]; omega) (by omega) (by omega)]
    rcases ba with rfl | rfl <;> decide
  · show Builtin.bitXor (1 - α) c = (-A) / p % 2
    obtain ⟨r, er, r0, r1⟩ : ∃ r, -a = r - p * (1 - c) ∧ 0 ≤ r ∧ r < p := h
    have e : p * (2 * (-A') + (-α - 1 + c)) = -(p * (2 * A')) - p * α - p * (1 - c) := by
      rw [Int.mul_add, Int.mul_neg, Int.mul_neg, Int.mul_sub, Int.mul_add, Int.mul_sub, Int.mul_neg]
      omega
    rw [bit_at (u := -A') (k := -α - 1 + c) (r := r) hp (by rw [e]; omega) r0 r1]
    rcases ba with rfl | rfl <;> rcases hc with rfl | rfl <;> decide
  · show c = (A + A) / p % 2
    obtain ⟨r, er, r0, r1⟩ : ∃ r, a + a = p * c + r ∧ 0 ≤ r ∧ r < p := h
    have e : p * (2 * (2 * A' + α) + c) = 2 * (p * (2 * A')) + 2 * (p * α) + p * c := by
      rw [Int.mul_add, Int.mul_left_comm, Int.mul_add p]
      omega
    rw [bit_at (u := 2 * A' + α) (k := c) (r := r) hp (by rw [e]; omega) r0 r1, bit_val hc]
  · show Builtin.bitAnd α β = Builtin.bitAnd A B / p % 2
    rw [land]
  · show Builtin.bitOr α β = Builtin.bitOr A B / p % 2
    rw [lor]
  · show Builtin.bitXor α β = Builtin.bitXor A B / p % 2
    rw [lxor]
  · show Builtin.bitXor (Builtin.bitXor α β) c = (A + B) / p % 2
    obtain ⟨r, er, r0, r1⟩ : ∃ r, a + b = p * c + r ∧ 0 ≤ r ∧ r < p := h
    have e : p * (2 * (A' + B') + (α + β + c)) = p * (2 * A') + p * (2 * B') + p * α + p * β + p * c := by
      rw [Int.mul_add 2, Int.mul_add, Int.mul_add p, Int.mul_add p, Int.mul_add p]
      omega
    rw [bit_at (u := A' + B') (k := α + β + c) (r := r) hp (by rw [e]; omega) r0 r1]
    rcases ba with rfl | rfl <;> rcases bb with rfl | rfl <;> rcases hc with rfl | rfl <;> decide
  · show Builtin.bitXor (Builtin.bitXor α β) c = (A - B) / p % 2
    obtain ⟨r, er, r0, r1⟩ : ∃ r, a - b = r - p * c ∧ 0 ≤ r ∧ r < p := h
    have e : p * (2 * (A' - B') + (α - β - c)) = p * (2 * A') - p * (2 * B') + p * α - p * β - p * c := by
      rw [Int.mul_sub 2, Int.mul_add, Int.mul_sub p, Int.mul_sub p, Int.mul_sub p]
      omega
    rw [bit_at (u := A' - B') (k := α - β - c) (r := r) hp (by rw [e]; omega) r0 r1]
    rcases ba with rfl | rfl <;> rcases bb with rfl | rfl <;> rcases hc with rfl | rfl <;> decide
/-! ### rows' bits and carries -/
theorem bit_mod {V : Int} {t n : Nat} (h : t < n) : bitA t (V % 2 ^ n) = bitA t V := by
  obtain ⟨N', hN⟩ : ∃ N' : Int, (2 : Int) ^ n = 2 ^ t * (2 * N') := by
    refine ⟨2 ^ (n - t - 1), ?_⟩
    rw [show n = t + 1 + (n - t - 1) by omega, Int.pow_add, Int.pow_succ, Int.mul_assoc]
    congr 3
    omega
  have hp := pw_pos t
  have e := Int.mul_ediv_add_emod V (2 ^ n)
  have e1 := Int.mul_ediv_add_emod (V % 2 ^ n) (2 ^ t)
  have r0 := Int.emod_nonneg (V % 2 ^ n) (show (2 : Int) ^ t ≠ 0 by omega)
  have r1 := Int.emod_lt_of_pos (V % 2 ^ n) hp
  unfold bitA
  have z : V / 2 ^ t % 2 = (V % 2 ^ n / 2 ^ t) % 2 := by
    refine bit_at (u := N' * (V / 2 ^ n)) (k := V % 2 ^ n / 2 ^ t) (r := V % 2 ^ n % 2 ^ t) hp ?_ r0 r1
    have e2 : (2 : Int) ^ t * (2 * (N' * (V / 2 ^ n))) = 2 ^ n * (V / 2 ^ n) := by rw [hN, Int.mul_assoc, Int.mul_assoc]
    rw [Int.mul_add, e2]
    omega
  exact z.symm
theorem vals_pre {N : Int} : ∀ (ds : List Deed) (t : List Int), (vals N ds t).take t.length = t
  | [], t => List.take_length
  | d :: ds, t => by
    have h := vals_pre ds (t ++ [dval N d t]) (N := N)
    show (vals N ds (t ++ [dval N d t])).take t.length = t
    have h2 : ((vals N ds (t ++ [dval N d t])).take (t ++ [dval N d t]).length).take t.length = t := by
      rw [h]
      exact List.take_left
    rw [List.take_take, List.length_append, Nat.min_eq_left (by omega)] at h2
    exact h2
theorem vals_at {N : Int} {ds : List Deed} {xs : List Int} (i : Nat) (hi : i ≤ ds.length) : vals N (ds.take i) xs = (vals N ds xs).take (xs.length + i) := by
  have e : vals N ds xs = vals N (ds.drop i) (vals N (ds.take i) xs) := by rw [← vals_append, List.take_append_drop]
  have l : (vals N (ds.take i) xs).length = xs.length + i := by rw [vals_len, List.length_take, Nat.min_eq_left hi]
  rw [e, ← l, vals_pre]
theorem ix_lt {d : Deed} {n : Nat} (h : DeedOk n d) (hn : 1 ≤ n) (k : Nat) : (d.2.getD k 0).toNat < n := by
  rw [List.getD_eq_getElem?_getD]
  cases e : d.2[k]? with
  | none => exact hn
  | some i =>
    obtain ⟨h0, h1⟩ := h.ahead i (List.mem_of_getElem? e)
    show i.toNat < n
    omega
theorem arg_map {d : Deed} {told : List Int} (f : Int → Int) (h : DeedOk told.length d) (hn : 1 ≤ told.length) (k : Nat) : argAt d (told.map f) k = f (argAt d told k) := by
  have hi := ix_lt h hn k
  unfold argAt
  generalize (d.2.getD k 0).toNat = j at hi
  rw [List.getD_eq_getElem?_getD, List.getD_eq_getElem?_getD, List.getElem?_map, List.getElem?_eq_getElem hi]
  rfl
theorem arg_take {d : Deed} {v : List Int} {n : Nat} (h : DeedOk n d) (hn : 1 ≤ n) (hv : n ≤ v.length) (k : Nat) : argAt d (v.take n) k = argAt d v k := by
  have hi := ix_lt h hn k
  unfold argAt
  generalize (d.2.getD k 0).toNat = j at hi
  rw [List.getD_eq_getElem?_getD, List.getD_eq_getElem?_getD, List.getElem?_take, if_pos hi]
/-- the carries into bit t -/
structure CIs (v : List Int) (t : Nat) (ds : List Deed) (cs : List Int) : Prop where
  len : cs.length = ds.length
  each : ∀ (k : Nat) d c, ds[k]? = some d → cs[k]? = some c → CI d.1 (argAt d v 0) (argAt d v 1) (2 ^ t) c ∧ Bit c
theorem cis_first (v : List Int) (ds : List Deed) : CIs v 0 ds (ds.map fcD) where
  len := List.length_map ..
  each := fun k d c hd hc => by
    rw [List.getElem?_map, hd] at hc
    obtain rfl := Option.some.inj hc
    refine ⟨ci_first d _ _, ?_⟩
    unfold fcD
    split
    · exact bit1
    · exact bit0
theorem cis_bits {m n t : Nat} {ds : List Deed} {xs cs : List Int} (ok : DsOk m ds) (hm : xs.length = m) (m1 : 1 ≤ m) (hx : ∀ x ∈ xs, 0 ≤ x ∧ x < 2 ^ n) (ht : t < n) (h : CIs (vals (2 ^ n) ds xs) t ds cs) : bts ds cs (xs.map (bitA t)) = (vals (2 ^ n) ds xs).map (bitA t) := by
  have vr := vals_range (pw_pos n) ds xs hx
  have vl := vals_len (size := 2 ^ n) ds xs
  have key : ∀ i, i ≤ ds.length → bts (ds.take i) (cs.take i) (xs.map (bitA t)) = ((vals (2 ^ n) ds xs).take (xs.length + i)).map (bitA t) := by
    intro i
    induction i with
    | zero =>
      intro _
      rw [Nat.add_zero, vals_pre]
      cases ds <;> rfl
    | succ i ih =>
      intro hi
      have hd : ds[i]? = some ds[i] := List.getElem?_eq_getElem (by omega)
      have hc : cs[i]? = some (cs[i]'(by rw [h.len]; omega)) := List.getElem?_eq_getElem _
      obtain ⟨h1, h2⟩ := h.each i _ _ hd hc
      generalize ds[i] = d at hd h1
      generalize cs[i]'(by rw [h.len]; omega) = c at hc h1 h2
      have okd : DeedOk ((xs.length + i : Nat) : Int) d := by
        have := ok.each i d hd
        rw [hm]
        have e : ((m + i : Nat) : Int) = (m : Int) + (i : Int) := by omega
        rw [e]
        exact this
      have pl : ((vals (2 ^ n) ds xs).take (xs.length + i)).length = xs.length + i := by
        rw [List.length_take, vl]
        omega
      rw [bts_next hd hc, ih (by omega), ← vals_at (i + 1) hi, vals_next hd, vals_at i (by omega), List.map_append]
      congr 1
      show [dbitAt d c _] = [bitA t (dval (2 ^ n) d _)]
      unfold dbitAt dval
      rw [arg_map _ (by rw [pl]; exact okd) (by omega), arg_map _ (by rw [pl]; exact okd) (by omega), arg_take okd (by omega) (by omega), arg_take okd (by omega) (by omega), bit_mod ht]
      rw [dbit_tells (List.mem_map.mpr ⟨_, okd.word, rfl⟩) ht (arg_nn (fun x hx => (vr x hx).1) d 0) (arg_nn (fun x hx => (vr x hx).1) d 1) h2 h1]
  have e := key ds.length (Nat.le_refl _)
  rw [List.take_length, ← h.len, List.take_length, h.len, ← vl, List.take_length] at e
  exact e
theorem cis_next {m n t : Nat} {ds : List Deed} {xs cs : List Int} (ok : DsOk m ds) (hm : xs.length = m) (m1 : 1 ≤ m) (h : CIs (vals (2 ^ n) ds xs) t ds cs) : CIs (vals (2 ^ n) ds xs) (t + 1) ds (nxt ds cs ((vals (2 ^ n) ds xs).map (bitA t))) where
  len := nxt_len h.len.symm
  each := fun k d c hd hc => by
    unfold nxt at hc
    rw [List.getElem?_zipWith, hd] at hc
    cases e : cs[k]? with
    | none => rw [e] at hc; simp at hc
    | some c0 =>
      rw [e] at hc
      obtain rfl : dcarAt d c0 ((vals (2 ^ n) ds xs).map (bitA t)) = c := by simpa using hc
      obtain ⟨h1, h2⟩ := h.each k d c0 hd e
      have kl := (List.getElem?_eq_some_iff.mp hd).1
      have okd : DeedOk (vals (2 ^ n) ds xs).length d := by
        rw [vals_len]
        refine ⟨(ok.each k d hd).word, fun i hi => ?_⟩
        have := (ok.each k d hd).ahead i hi
        omega
      have l1 : 1 ≤ (vals (2 ^ n) ds xs).length := by
        rw [vals_len]
        omega
      unfold dcarAt
      rw [arg_map _ okd l1, arg_map _ okd l1]
      refine ⟨?_, dcar_bit (bitA_bit _ _) (bitA_bit _ _) h2⟩
      rw [Int.pow_succ, Int.mul_comm]
      exact ci_next (pw_pos t) h2 h1
/-- the carry come to by the words' bits -/
def crry (ds : List Deed) (xs : List Int) : Nat → List Int
  | 0 => ds.map fcD
  | t + 1 => nxt ds (crry ds xs t) (bts ds (crry ds xs t) (xs.map (bitA t)))
theorem crry_ok {m n : Nat} {ds : List Deed} {xs : List Int} (ok : DsOk m ds) (hm : xs.length = m) (m1 : 1 ≤ m) (hx : ∀ x ∈ xs, 0 ≤ x ∧ x < 2 ^ n) : ∀ t, t ≤ n → CIs (vals (2 ^ n) ds xs) t ds (crry ds xs t)
  | 0, _ => cis_first _ ds
  | t + 1, h => by
    have ih := crry_ok ok hm m1 hx t (by omega)
    show CIs _ (t + 1) ds (nxt ds (crry ds xs t) (bts ds (crry ds xs t) (xs.map (bitA t))))
    rw [cis_bits ok hm m1 hx (by omega) ih]
    exact cis_next ok hm m1 ih
theorem crry_bits {m n t : Nat} {ds : List Deed} {xs : List Int} (ok : DsOk m ds) (hm : xs.length = m) (m1 : 1 ≤ m) (hx : ∀ x ∈ xs, 0 ≤ x ∧ x < 2 ^ n) (ht : t < n) : bts ds (crry ds xs t) (xs.map (bitA t)) = (vals (2 ^ n) ds xs).map (bitA t) :=
  cis_bits ok hm m1 hx ht (crry_ok ok hm m1 hx t (by omega))
/-! ### the carries that come -/
inductive Rch (m : Nat) (ds : List Deed) : List Int → Prop
  | first : Rch m ds (ds.map fcD)
  | next {c bs : List Int} : Rch m ds c → bs.length = m → (∀ x ∈ bs, Bit x) → Rch m ds (nxt ds c (bts ds c bs))
theorem crry_rch (ds : List Deed) (xs : List Int) : ∀ t, Rch xs.length ds (crry ds xs t)
  | 0 => .first
  | t + 1 => .next (crry_rch ds xs t) (List.length_map ..) fun x hx => by
    obtain ⟨y, _, rfl⟩ := List.mem_map.mp hx
    exact bitA_bit t y
/-- bits, none where nothing carries -/
def Shp : List Deed → List Int → Prop
  | [], [] => True
  | d :: ds, c :: cs => Bit c ∧ (d.1 ∉ twC → c = 0) ∧ Shp ds cs
  | _, _ => False
theorem Shp.len : ∀ {ds : List Deed} {cs : List Int}, Shp ds cs → cs.length = ds.length
  | [], [], _ => rfl
  | [], _ :: _, h => h.elim
  | _ :: _, [], h => h.elim
  | _ :: _, _ :: _, h => congrArg (· + 1) (Shp.len h.2.2)
theorem Shp.bits : ∀ {ds : List Deed} {cs : List Int}, Shp ds cs → ∀ c ∈ cs, Bit c
  | [], [], _ => (fun _ z => nomatch z)
  | [], _ :: _, h => h.elim
  | _ :: _, [], h => h.elim
  | _ :: _, _ :: _, h => fun c hc => by
    rcases List.mem_cons.mp hc with rfl | hc
    · exact h.1
    · exact Shp.bits h.2.2 c hc
theorem calm_first {d : Deed} (h : d.1 ∉ twC) : fcD d = 0 := by
  unfold fcD
  rw [if_neg]
  intro z
  simp only [List.mem_cons, List.not_mem_nil, or_false] at z
  simp only [twC, List.mem_cons, List.not_mem_nil, or_false, not_or] at h
  rcases z with z | z
  · exact h.2.2.2.1 z
  · exact h.2.2.2.2 z
theorem calm_car {x : Str} (h : x ∉ twC) (a b c : Int) : dcar x a b c = 0 := by
  simp only [twC, List.mem_cons, List.not_mem_nil, or_false, not_or] at h
  obtain ⟨h1, h2, h3, h4, h5⟩ := h
  unfold dcar
  rw [if_neg h4, if_neg h3, if_neg h1, if_neg h2]
theorem shp_first : ∀ ds : List Deed, Shp ds (ds.map fcD)
  | [] => trivial
  | d :: ds => ⟨(by unfold fcD; split; exact bit1; exact bit0), calm_first, shp_first ds⟩
theorem shp_nxt {told : List Int} (hb : ∀ x ∈ told, Bit x) : ∀ {ds : List Deed} {cs : List Int}, Shp ds cs → Shp ds (nxt ds cs told)
  | [], [], _ => trivial
  | [], _ :: _, h => h.elim
  | _ :: _, [], h => h.elim
  | d :: ds, c :: cs, h => ⟨dcar_bit (argAt_bit hb d 0) (argAt_bit hb d 1) h.1, fun z => calm_car z _ _ _, shp_nxt hb h.2.2⟩
theorem rch_shp {m : Nat} {ds : List Deed} : ∀ {c : List Int}, Rch m ds c → Shp ds c := by
  intro c h
  induction h with
  | first => exact shp_first ds
  | next h hl hb ih => exact shp_nxt (bts_bits hb ih.bits) ih
def univ : List Deed → List (List Int)
  | [] => [[]]
  | d :: ds => if d.1 ∈ twC then (univ ds).map (0 :: ·) ++ (univ ds).map (1 :: ·) else (univ ds).map (0 :: ·)
theorem univ_len : ∀ ds : List Deed, (univ ds).length = 2 ^ carN ds
  | [] => rfl
  | d :: ds => by
    have ih := univ_len ds
    unfold univ carN
    by_cases h : d.1 ∈ twC
    · rw [if_pos h, if_pos h, List.length_append, List.length_map, List.length_map, ih, Nat.pow_succ]
      omega
    · rw [if_neg h, if_neg h, List.length_map, ih]
      rfl
theorem shp_univ : ∀ {ds : List Deed} {cs : List Int}, Shp ds cs → cs ∈ univ ds
  | [], [], _ => List.mem_cons_self
  | [], _ :: _, h => h.elim
  | _ :: _, [], h => h.elim
  | d :: ds, c :: cs, h => by
    have ih := shp_univ h.2.2
    unfold univ
    by_cases hd : d.1 ∈ twC
    · rw [if_pos hd]
      rcases h.1 with rfl | rfl
      · exact List.mem_append_left _ (List.mem_map.mpr ⟨cs, ih, rfl⟩)
      · exact List.mem_append_right _ (List.mem_map.mpr ⟨cs, ih, rfl⟩)
    · rw [if_neg hd, h.2.1 hd]
      exact List.mem_map.mpr ⟨cs, ih, rfl⟩
theorem pigeon {α : Type} [DecidableEq α] : ∀ (l D : List α), l.Nodup → (∀ x ∈ l, x ∈ D) → l.length ≤ D.length
  | [], _, _, _ => Nat.zero_le _
  | x :: l, D, nd, h => by
    rw [List.nodup_cons] at nd
    have hx := h x List.mem_cons_self
    have ih := pigeon l (D.erase x) nd.2 fun y hy => (List.mem_erase_of_ne (fun e : y = x => nd.1 (by rw [← e]; exact hy))).mpr (h y (List.mem_cons_of_mem _ hy))
    rw [List.length_erase_of_mem hx] at ih
    have := List.length_pos_of_mem hx
    rw [List.length_cons]
    omega
/-! ### all bits -/
theorem walk_gen {J : It} {n : Nat} {G : Hp → Prop} {Y : Nat → Hp → V → Hp → Prop} (w : Walk J n G Y) {g : TG} {σ0 : L2.St} {B : (Hp → Prop) → L2.St → Hp → Prop} {H0 : Hp} {Qd : Hp → Prop} (Pv : Nat → Hp → Prop) (h0 : Pv 0 H0)
    (hG : ∀ i H, i ≤ n → Pv i H → G H) (hs : ∀ i x H H', i < n → Pv i H → Y i H x H' → g x σ0 H' fun σ2 H2 => B (Pv (i + 1)) σ2 H2) (hd : ∀ H, Pv n H → Qd H) :
    ∃ W : Nat → Nat → Hp → Prop, (∃ m, W 0 m H0) ∧ ∀ i m H, W i m H → (J.stop i H ∧ Qd H) ∨ (J.go i H ∧ ∃ Nx : Hp → Prop, (∀ H', Nx H' → ∃ m', m' < m ∧ W (i + 1) m' H') ∧ ∀ x H', J.yld i H x H' → g x σ0 H' fun σ2 H2 => B Nx σ2 H2) := by
  refine ⟨fun i m H => m = n - i ∧ i ≤ n ∧ Pv i H, ⟨n, by simp, Nat.zero_le _, h0⟩, ?_⟩
  rintro i m H ⟨rfl, hi, q⟩
  by_cases lt : i < n
  · exact .inr ⟨w.goes i H lt (hG i H hi q), Pv (i + 1), fun H' z => ⟨n - (i + 1), by omega, rfl, lt, z⟩, fun x H' y => hs i x H H' lt q (w.yields i H x H' lt (hG i H hi q) y)⟩
  · obtain rfl : i = n := by omega
    exact .inl ⟨w.stops H (hG i H hi q), hd H q⟩
def ext2 (l : List (List Int)) : List (List Int) := l.flatMap fun b => [b ++ [0], b ++ [1]]
def allB : Nat → List (List Int)
  | 0 => [[]]
  | m + 1 => ext2 (allB m)
theorem ext2_len (l : List (List Int)) : (ext2 l).length = 2 * l.length := by
  unfold ext2
  induction l with
  | nil => rfl
  | cons b l ih => rw [List.flatMap_cons, List.length_append, ih, List.length_cons]; simp; omega
theorem allB_len : ∀ m, (allB m).length = 2 ^ m
  | 0 => rfl
  | m + 1 => by
    show (ext2 (allB m)).length = _
    rw [ext2_len, allB_len m, Nat.pow_succ]
    omega
theorem allB_ok : ∀ m, ∀ bs ∈ allB m, bs.length = m ∧ ∀ x ∈ bs, Bit x
  | 0, bs, h => by
    rw [List.mem_singleton.mp h]
    exact ⟨rfl, (fun _ z => nomatch z)⟩
  | m + 1, bs, h => by
    obtain ⟨b, hb, h2⟩ := List.mem_flatMap.mp h
    obtain ⟨h3, h4⟩ := allB_ok m b hb
    simp only [List.mem_cons, List.not_mem_nil, or_false] at h2
    rcases h2 with rfl | rfl
    · refine ⟨by rw [List.length_append, h3]; rfl, fun x hx => ?_⟩
      rcases List.mem_append.mp hx with hx | hx
      · exact h4 x hx
      · rw [List.mem_singleton.mp hx]
        exact bit0
    · refine ⟨by rw [List.length_append, h3]; rfl, fun x hx => ?_⟩
      rcases List.mem_append.mp hx with hx | hx
      · exact h4 x hx
      · rw [List.mem_singleton.mp hx]
        exact bit1
theorem allB_all : ∀ m, ∀ bs : List Int, bs.length = m → (∀ x ∈ bs, Bit x) → bs ∈ allB m
  | 0, bs, h, _ => by
    rw [List.eq_nil_of_length_eq_zero h]
    exact List.mem_cons_self
  | m + 1, bs, h, hb => by
    have hne : bs ≠ [] := fun e => by rw [e] at h; simp at h
    have e := List.dropLast_concat_getLast hne
    have h1 : bs.dropLast ∈ allB m := allB_all m _ (by rw [List.length_dropLast, h]; rfl) fun x hx => hb x ((List.dropLast_sublist bs).subset hx)
    refine List.mem_flatMap.mpr ⟨_, h1, ?_⟩
    rcases hb _ (List.getLast_mem hne) with z | z
    · rw [z] at e
      exact List.mem_cons.mpr (.inl e.symm)
    · rw [z] at e
      exact List.mem_cons.mpr (.inr (List.mem_singleton.mpr e.symm))
/-- tuples of ints -/
abbrev TAt (H : Hp) : List Addr → List (List Int) → Prop := Paired fun f bs => H f = some (.tup (bs.map V.int))
theorem tat_stay {H H' : Hp} (t : TupsStay H H') {fs : List Addr} {l : List (List Int)} (h : TAt H fs l) : TAt H' fs l := awMap (fun f b e => t f _ e) h
def spAll : Sp := fun vs H Q _ => ∃ m : Nat, vs = [.int (m : Int)] ∧ m ≤ 3 ∧ ∀ H' p fs, Same H H' → H p = none → H' p = some (.lst (fs.map V.ref)) → TAt H' fs (allB m) → Q (.ref p) H'
theorem ok_all {f : Addr} {fd : FuncData} {k : Nat} (F : Fun K "all_bits" "all_bits" s_all_bits f fd) (mr : mg "range" = none) : FnOk P w K mg base CX0 (k + 1) f fd ["many"] spAll := by
  refine F.ok sc_all_bits (fun vs H Q E h => ?_) (fun cdv A outer s H vs Q E hr h => ?_)
  · obtain ⟨m, rfl, _⟩ := h
    rfl
  · obtain ⟨m, rfl, m3, q⟩ := h
    refine ⟨_, pss_cons (ps_set (i := 1) sc_all_bits.nd rfl (.inl rfl) (pe_lst (pa_cons (pe_tup pa_nil) pa_nil)))
      (pss_cons (ps_for PassesOwn.never rfl (pi_range1 (by rfl) mr (pa_cons (pv 0) pa_nil)) (pg_name (i := 2) sc_all_bits.nd rfl (.inl rfl))
        (pss_one (ps_setLc2 (i := 1) (own := [("bits", 3), ("bit", 4)]) (vs1 := [4]) (g := gName 3) (g1 := gName 4) (wi1 := iTup K (tTup (tCons (tC (.int 0)) (tCons (tC (.int 1)) tNil)))) (by rfl) sc_all_bits.nd rfl rfl (sw_true rfl rfl rfl (by decide +kernel)) (pi_list (pv 1)) (blkOk_by (own := [("bits", 3), ("bit", 4)]) (N := N_all_bits) (sc := defScope s_all_bits) (by decide +kernel)) (by decide)
          (fun _ _ _ _ _ => pg_name (i := 3) sc_all_bits.nd rfl (Or.inl rfl)) (fun _ _ _ _ _ => pts_nil) (fun _ _ _ _ _ => pi_tup (pe_tup (pa_cons pe_int (pa_cons pe_int pa_nil))))
          (fun _ _ _ _ _ => pg_name (i := 4) sc_all_bits.nd rfl (Or.inl rfl)) (fun _ _ _ _ _ => pts_nil) (fun _ _ _ _ _ => pe_op op_catZ (pv 3) (pe_tup (pa_cons (pv 4) pa_nil))))))
      (pss_one (ps_ret (pv 1)))), ?_⟩
    refine ⟨by show 0 ≤ sizeLine; decide, fun T hT => ⟨by show 1 ≤ sizeLine; decide, fun L hL => ?_⟩⟩
    have s1 := same_new (o := .tup []) hT
    have s2 := same_new (o := .lst [.ref T]) hL
    refine ⟨.int m, rfl, m, rfl, by omega, by omega, for_range (lo := 0) (n := m) (fun i σ H3 => ∃ y2 F1 fs, σ = [some (.int (m : Int)), some (.ref F1), y2, none, none] ∧ H F1 = none ∧ H3 F1 = some (.lst (fs.map V.ref)) ∧ TAt H3 fs (allB i) ∧ Same H H3) ⟨none, L, [T], rfl, s1.free hL, upd_same, .cons (s2 _ _ upd_same) .nil, s1.trans s2⟩ (fun i σ H3 hi hp => ?_) (fun σ H3 hp => ?_)⟩
    · obtain ⟨y2, F1, fs, rfl, nF, eF, hf, sm⟩ := hp
      have fl : fs.length ≤ 8 := by
        rw [awLen hf, allB_len]
        exact Nat.le_trans (Nat.pow_le_pow_right (by decide) (show i ≤ 3 by omega)) (by decide)
      refine ⟨.ref F1, rfl, F1, rfl, ⟨_, .inl (.inl eF)⟩, fun M hM => ?_⟩
      refine walk_gen (walk_list (K := K) (a := F1) (xs := fs.map V.ref)) (fun j H4 => ∃ gs, H4 M = some (.lst (gs.map V.ref)) ∧ TAt H4 gs (ext2 ((allB i).take j)) ∧ Same H3 H4) ⟨[], upd_same, .nil, same_new hM⟩ (fun j H4 _ hp => ?_) (fun j x H4 H5 hj hp hy => ?_) (fun H4 hp => ?_)
      · obtain ⟨_, _, _, s4⟩ := hp
        exact .inl (.inl (s4 _ _ eF))
      · obtain ⟨gs, eM, hg, s4⟩ := hp
        obtain ⟨rfl, hx⟩ := hy
        have hj2 : j < fs.length := by rwa [List.length_map] at hj
        have hx' : x = .ref fs[j] := by
          rw [List.getElem?_map, List.getElem?_eq_getElem hj2] at hx
          exact (Option.some.inj hx).symm
        subst hx'
        obtain ⟨b, hb1, hb2⟩ := awGet hf (List.getElem?_eq_getElem hj2)
        have bl : b.length = i := (allB_ok i b (List.mem_of_getElem? hb1)).1
        refine ⟨rfl, by show 2 ≤ sizeLine; decide, fun U hU => ?_⟩
        have sU := same_new (o := .tup [.int 0, .int 1]) hU
        refine ⟨U, rfl, ⟨_, SqT.of upd_same⟩, ?_⟩
        refine walk_gen (walk_tup (K := K) (a := U) (xs := [.int 0, .int 1])) (fun t H6 => ∃ gs, H6 M = some (.lst (gs.map V.ref)) ∧ TAt H6 gs (ext2 ((allB i).take j) ++ [b ++ [0], b ++ [1]].take t) ∧ TupsStay (upd H5 U (.tup [.int 0, .int 1])) H6 ∧ Same H3 H6) ⟨gs, sU _ _ eM, (by rw [List.take_zero, List.append_nil]; exact tat_stay (Same.tups sU) hg), (fun _ _ e => e), s4.trans sU⟩ (fun t H6 _ hp => ?_) (fun t x H6 H7 ht hp hy => ?_) (fun H6 hp => ?_)
        · obtain ⟨_, _, _, t6, _⟩ := hp
          exact SqT.of (t6 _ _ upd_same)
        · obtain ⟨gs, eM6, hg6, t6, s6⟩ := hp
          obtain ⟨rfl, hx⟩ := hy
          obtain ⟨z, rfl, hz⟩ : ∃ z : Int, x = .int z ∧ [b ++ [0], b ++ [1]].take (t + 1) = [b ++ [0], b ++ [1]].take t ++ [b ++ [z]] := by
            have ht2 : t = 0 ∨ t = 1 := by
              have : t < 2 := ht
              omega
            rcases ht2 with rfl | rfl
            · exact ⟨0, (Option.some.inj hx).symm, rfl⟩
            · exact ⟨1, (Option.some.inj hx).symm, rfl⟩
          have eb := s6 _ _ (hb2)
          refine ⟨rfl, .ref fs[j], rfl, .int z, rfl, by show 1 ≤ sizeLine; decide, fun U2 hU2 => ?_⟩
          have sU2 := same_new (o := .tup [.int z]) hU2
          refine ⟨fs[j], U2, _, _, rfl, rfl, sU2 _ _ eb, upd_same, by rw [List.length_map]; exact Nat.le_of_lt (small1000 (by show b.length + 1 ≤ 1000; omega)), fun p H8 s8 ep => ?_⟩
          have s78 := sU2.trans s8
          have eM8 := s78 _ _ eM6
          have gl := awLen hg6
          have gl2 : gs.length ≤ 18 := by
            rw [gl, List.length_append, ext2_len, List.length_take]
            have e1 : (allB i).length = fs.length := (awLen hf).symm
            have e2 : ([b ++ [0], b ++ [1]].take t).length ≤ 2 := by
              rw [List.length_take]
              exact Nat.min_le_right _ _
            omega
          have tp := tups_put (o := .lst (gs.map V.ref ++ [V.ref p])) eM8
          refine ⟨_, eM8, by rw [List.length_map]; exact small1000 (by omega), gs ++ [p], ?_, ?_, ?_, ?_⟩
          · rw [upd_same, List.map_append]
            rfl
          · rw [hz, ← List.append_assoc]
            refine tat_stay tp (awSnoc (F := fun f (bs : List Int) => H8 f = some (.tup (bs.map V.int))) ?_ (tat_stay (Same.tups s78) hg6))
            rw [ep, List.map_append]
            rfl
          · exact (t6.trans (Same.tups s78)).trans tp
          · intro c u e
            rw [upd_ne (ne_of_none e hM)]
            exact s78 c u (s6 c u e)
        · obtain ⟨gs, eM6, hg6, t6, s6⟩ := hp
          refine ⟨gs, eM6, ?_, s6⟩
          have e1 : ext2 ((allB i).take (j + 1)) = ext2 ((allB i).take j) ++ [b ++ [0], b ++ [1]] := by
            rw [List.take_add_one, hb1]
            unfold ext2
            rw [List.flatMap_append]
            rfl
          rw [e1]
          exact hg6
      · obtain ⟨gs, eM, hg, s4⟩ := hp
        refine ⟨some (.int (0 + i)), M, gs, rfl, sm.free hM, eM, ?_, sm.trans s4⟩
        rw [List.length_map, awLen hf, List.take_length] at hg
        exact hg
    · obtain ⟨y2, F1, fs, rfl, nF, eF, hf, sm⟩ := hp
      exact ⟨.ref F1, rfl, q _ F1 fs sm nF eF hf⟩
/-! ### carry_behind, steps, kept_steps -/
def spCb : Sp := fun vs H Q _ => ∃ (R C T : Addr) (m o : Int) (ds : List Deed) (cs told : List Int), vs = [.ref R, .ref C, .ref T] ∧ RowAt H R m ds o ∧ DsOk m ds ∧ ds.length ≤ 100 ∧ H C = some (.tup (cs.map V.int)) ∧ cs.length = ds.length ∧ H T = some (.tup (told.map V.int)) ∧ (told.length : Int) = m + ds.length ∧
  ∀ H' p, Same H H' → H p = none → H' p = some (.tup ((nxt ds cs told).map V.int)) → Q (.ref p) H'
theorem ok_cb {f fC : Addr} {fd fdC : FuncData} {k : Nat} (F : Fun K "carry_behind" "carry_behind" s_carry_behind f fd)
    (GC : FnOk P w K mg base CX0 (k + 2) fC fdC ["deed", "held", "told"] spDc) (kC : PySem.W.keepIn K (.ref fC) = true) (bC : Binds K fdC ["deed", "held", "told"] []) (gC : mg "deed_carry" = some (.ref fC)) (mt : mg "tuple" = none) (mz : mg "zip" = none) : FnOk P w K mg base CX0 (k + 3) f fd ["row", "carry", "told"] spCb := by
  refine F.ok sc_carry_behind (fun vs H Q E h => ?_) (fun cdv A outer s H vs Q E hr h => ?_)
  · obtain ⟨R, C, T, m, o, ds, cs, told, rfl, _⟩ := h
    rfl
  · obtain ⟨R, C, T, m, o, ds, cs, told, rfl, hrow, hok, hds, eC, hcl, eT, htl, q⟩ := h
    obtain ⟨D, rs, eR, eD, hd⟩ := id hrow
    refine ⟨_, pss_one (ps_ret (pe_callTy call_tuple_of (by rfl) mt (by decide +kernel) (pa_cons
        (pe_lc (own := [("deed", 3), ("held", 4)]) (g := gTup K 2 (gCons (gName 3) (gCons (gName 4) gNil))) (by rfl) sc_carry_behind.nd (RZ.pi_zipA (by rfl) mz (pa_cons (pe_ix ix_tup (pv 0) pe_int (fun _ _ => rfl)) (pa_cons (pv 1) pa_nil))) (blkOk_by (own := [("deed", 3), ("held", 4)]) (N := N_carry_behind) (sc := defScope s_carry_behind) (by decide +kernel))
          (fun _ _ _ _ _ => pg_tup rfl (pgs_cons (pg_name (i := 3) sc_carry_behind.nd rfl (.inl rfl)) (pgs_cons (pg_name (i := 4) sc_carry_behind.nd rfl (.inl rfl)) pgs_nil))) (fun _ _ _ _ _ => pts_nil)
          (fun _ _ _ _ _ => pe_call GC hr (by rfl) gC kC bC .nil pass0 (pa_cons (pv 3) (pa_cons (pv 4) (pa_cons (pv 2) pa_nil))))) pa_nil))), ?_⟩
    have lrs : (rs.map V.ref).length = ds.length := by rw [List.length_map, awLen hd]
    have lcs : (cs.map V.int).length = ds.length := by rw [List.length_map, hcl]
    refine ⟨.ref R, rfl, R, _, 1, .ref D, rfl, rfl, SqT.of eR, rfl, .ref C, rfl, D, C, _, _, rfl, .inr ⟨SqT.of eD, SqT.of eC, fun L hL => ?_⟩⟩
    refine lc_it (walk_zipT (K := K) (a := D) (b := C) (xs := rs.map V.ref) (ys := cs.map V.int) (lrs.trans lcs.symm)) (fun i H4 => H4 L = some (.lst (((nxt ds cs told).take i).map V.int)) ∧ Same H H4) ⟨upd_same, same_new hL⟩ (fun i H4 _ hp => ⟨SqT.of (hp.2 _ _ eD), SqT.of (hp.2 _ _ eC)⟩) (fun i x H4 H5 hi hp hy => ?_) (fun H4 hp => ?_)
    · obtain ⟨eL, sm⟩ := hp
      obtain ⟨U, x1, x2, rfl, hU, rfl, g1, g2⟩ := hy
      have hi2 : i < rs.length := by rwa [List.length_map] at hi
      have hx' : x1 = .ref rs[i] := by
        have g1' : (rs.map V.ref)[i]? = some x1 := g1
        rw [List.getElem?_map, List.getElem?_eq_getElem hi2] at g1'
        exact (Option.some.inj g1').symm
      subst hx'
      obtain ⟨d, hd1, hd2⟩ := awGet hd (List.getElem?_eq_getElem hi2)
      obtain ⟨c, hc, rfl⟩ : ∃ c, cs[i]? = some c ∧ x2 = .int c := by
        have g2' : (cs.map V.int)[i]? = some x2 := g2
        rw [List.getElem?_map] at g2'
        cases e : cs[i]? with
        | none => rw [e] at g2'; cases g2'
        | some c => rw [e] at g2'; exact ⟨c, rfl, (Option.some.inj g2').symm⟩
      have h2 : i < ds.length := by
        rw [← awLen hd]
        exact hi2
      have okd : DeedOk told.length d := okd_more (hok.each i d hd1) (by omega)
      have sU := same_new (o := .tup [.ref rs[i], .int c]) hU
      refine ⟨U, [.ref rs[i], .int c], rfl, .inl (.inl upd_same), rfl, .ref rs[i], [.int c], rfl, .int c, [], rfl, rfl, rfl, ?_⟩
      refine ⟨.ref rs[i], rfl, .int c, rfl, .ref T, rfl, rs[i], T, d, _, c, rfl, sU _ _ (sm _ _ hd2), sU _ _ (sm _ _ eT), okd, _, sU _ _ eL, ?_, ?_, ?_⟩
      · rw [List.length_map, List.length_take, nxt_len hcl.symm]
        exact small1000 (by omega)
      · rw [upd_same, nxt_next hd1 hc, List.map_append]
        rfl
      · intro b u e
        rw [upd_ne (ne_of_none e hL)]
        exact sU b u (sm b u e)
    · obtain ⟨eL, sm⟩ := hp
      rw [lrs, ← nxt_len (t := told) hcl.symm, List.take_length] at eL
      refine ⟨L, _, rfl, .inl ⟨.inl (.inl eL), fun p hp => ?_⟩⟩
      exact q _ p (sm.trans (same_new hp)) (sm.free hp) upd_same
/-- the steps of a carry: for all bits the bit of out and the next carry -/
def stp (m : Nat) (ds : List Deed) (o : Int) (cs : List Int) : List (Int × List Int) := (allB m).map fun bs => ((bts ds cs bs).getD o.toNat 0, nxt ds cs (bts ds cs bs))
theorem stp_len (m : Nat) (ds : List Deed) (o : Int) (cs : List Int) : (stp m ds o cs).length = 2 ^ m := by
  unfold stp
  rw [List.length_map, allB_len]
abbrev StAt (H : Hp) : List Addr → List (Int × List Int) → Prop := Paired fun q e => ∃ c, H q = some (.tup [.int e.1, .ref c]) ∧ H c = some (.tup (e.2.map V.int))
theorem stat_stay {H H' : Hp} (t : TupsStay H H') {ps : List Addr} {l : List (Int × List Int)} (h : StAt H ps l) : StAt H' ps l := awMap (fun q e z => z.elim fun c y => ⟨c, t _ _ y.1, t _ _ y.2⟩) h
def spSt : Sp := fun vs H Q _ => ∃ (R C : Addr) (m : Nat) (o : Int) (ds : List Deed) (cs : List Int), vs = [.ref R, .ref C] ∧ RowAt H R m ds o ∧ RowOk m ds o ∧ H C = some (.tup (cs.map V.int)) ∧ cs.length = ds.length ∧
  ∀ H' p ps, Same H H' → H p = none → H' p = some (.lst (ps.map V.ref)) → StAt H' ps (stp m ds o cs) → Q (.ref p) H'
theorem ok_st {f fA fB fC : Addr} {fd fdA fdB fdC : FuncData} {k : Nat} (F : Fun K "steps" "steps" s_steps f fd)
    (GA : FnOk P w K mg base CX0 (k + 1) fA fdA ["many"] spAll) (kA : PySem.W.keepIn K (.ref fA) = true) (bA : Binds K fdA ["many"] []) (gA : mg "all_bits" = some (.ref fA))
    (GB : FnOk P w K mg base CX0 (k + 2) fB fdB ["row", "carry", "bits"] spBo) (kB : PySem.W.keepIn K (.ref fB) = true) (bB : Binds K fdB ["row", "carry", "bits"] []) (gB : mg "bits_of" = some (.ref fB))
    (GC : FnOk P w K mg base CX0 (k + 3) fC fdC ["row", "carry", "told"] spCb) (kC : PySem.W.keepIn K (.ref fC) = true) (bC : Binds K fdC ["row", "carry", "told"] []) (gC : mg "carry_behind" = some (.ref fC)) : FnOk P w K mg base CX0 (k + 4) f fd ["row", "carry"] spSt := by
  refine F.ok sc_steps (fun vs H Q E h => ?_) (fun cdv A outer s H vs Q E hr h => ?_)
  · obtain ⟨R, C, m, o, ds, cs, rfl, _⟩ := h
    rfl
  · obtain ⟨R, C, m, o, ds, cs, rfl, hrow, hok, eC, hcl, q⟩ := h
    obtain ⟨D, rs, eR, eD, hd⟩ := id hrow
    have r1 := hr.mono (show k + 1 ≤ k + 3 by omega)
    have r2 := hr.mono (show k + 2 ≤ k + 3 by omega)
    refine ⟨_, pss_cons (ps_set (i := 2) sc_steps.nd rfl (.inl rfl) (pe_lst pa_nil))
      (pss_cons (ps_for PassesOwn.never rfl (pi_list (pe_call GA r1 (by rfl) gA kA bA .nil pass0 (pa_cons (pe_ix ix_tup (pv 0) pe_int (fun _ _ => rfl)) pa_nil))) (pg_name (i := 3) sc_steps.nd rfl (.inl rfl))
        (pss_cons (ps_set (i := 4) sc_steps.nd rfl (.inl rfl) (pe_call GB r2 (by rfl) gB kB bB .nil pass0 (pa_cons (pv 0) (pa_cons (pv 1) (pa_cons (pv 3) pa_nil)))))
        (pss_one (ps_expr (pe_bm PySem.F.plainAttrs_list PySem.F.slot_list_append PySem.F.type_list_append mt_append (pv 2) (pa_cons (pe_tup (pa_cons (pe_ix ix_tup (pv 4) (pe_ix ix_tup (pv 0) pe_int (fun _ _ => rfl)) (fun _ _ => rfl)) (pa_cons (pe_call GC hr (by rfl) gC kC bC .nil pass0 (pa_cons (pv 0) (pa_cons (pv 1) (pa_cons (pv 4) pa_nil)))) pa_nil))) pa_nil))))))
      (pss_one (ps_ret (pv 2)))), ?_⟩
    have m1 := hok.m1
    have m3 := hok.m3
    have l8 := hok.len
    refine ⟨Nat.zero_le _, fun L hL => ?_⟩
    have sL := same_new (o := .lst []) hL
    refine ⟨.ref R, rfl, R, _, 0, .int m, rfl, rfl, SqT.of (sL _ _ eR), rfl, m, rfl, by omega, fun H1 B fs s1 nB eB hf => ?_⟩
    have nLB : B ≠ L := fun z => by rw [z, upd_same] at nB; cases nB
    have fl : fs.length = 2 ^ m := by rw [awLen hf, allB_len]
    have f8 : fs.length ≤ 8 := by
      rw [fl]
      exact Nat.le_trans (Nat.pow_le_pow_right (by decide) (show m ≤ 3 by omega)) (by decide)
    have old : ∀ H5 o, Same H H5 → Same H (upd H5 L o) := fun H5 o s5 b u e => by
      rw [upd_ne (ne_of_none e hL)]
      exact s5 b u e
    refine ⟨B, rfl, ⟨_, .inl (.inl eB)⟩, for_list (K := K) (a := B) (xs := fs.map V.ref) (fun i σ H3 => ∃ y3 y4 ps, σ = [some (.ref R), some (.ref C), some (.ref L), y3, y4] ∧ H3 L = some (.lst (ps.map V.ref)) ∧ StAt H3 ps ((stp m ds o cs).take i) ∧ H3 B = some (.lst (fs.map V.ref)) ∧ TAt H3 fs (allB m) ∧ Same H H3)
      ⟨none, none, [], rfl, s1 _ _ upd_same, .nil, eB, hf, sL.trans s1⟩ (fun i σ H3 _ hp => ?_) (fun i x σ H3 hx hp => ?_) (fun σ H3 hp => ?_)⟩
    · obtain ⟨_, _, _, _, _, _, e, _⟩ := hp
      exact .inl (.inl e)
    · obtain ⟨y3, y4, ps, rfl, eL, hs, eB3, hf3, s3⟩ := hp
      have hi : i < fs.length := by
        have := (List.getElem?_eq_some_iff.mp hx).1
        rwa [List.length_map] at this
      have hx' : x = .ref fs[i] := by
        rw [List.getElem?_map, List.getElem?_eq_getElem hi] at hx
        exact (Option.some.inj hx).symm
      subst hx'
      obtain ⟨bs, hb1, hb2⟩ := awGet hf3 (List.getElem?_eq_getElem hi)
      obtain ⟨bl, bb⟩ := allB_ok m bs (List.mem_of_getElem? hb1)
      refine ⟨.ref R, rfl, .ref C, rfl, .ref fs[i], rfl, R, C, fs[i], m, o, ds, cs, bs, rfl, (Same.tups s3).row hrow, hok.deeds, by omega, s3 _ _ eC, hcl, hb2, by rw [bl], by omega, fun H4 T s4 nT eT => ?_⟩
      have tl : (bts ds cs bs).length = m + ds.length := by rw [bts_len hcl.symm, bl]
      have o0 := hok.o0
      have o1 := hok.o1
      refine ⟨.ref L, rfl, .inl ⟨rfl, _, .inl (.inl (s4 _ _ eL))⟩, .ref T, rfl, .ref R, rfl, R, _, 2, .int o, rfl, rfl, SqT.of (s4 _ _ (s3 _ _ eR)), rfl, T, _, o, _, rfl, rfl, SqT.of eT, atI_ints o0 (by omega), ?_⟩
      refine ⟨.ref R, rfl, .ref C, rfl, .ref T, rfl, R, C, T, m, o, ds, cs, _, rfl, (Same.tups (s3.trans s4)).row hrow, hok.deeds, by omega, s4 _ _ (s3 _ _ eC), hcl, eT, by rw [tl]; omega, fun H5 N s5 nN eN => ?_⟩
      refine ⟨by show 2 ≤ sizeLine; decide, fun p hp => ?_⟩
      have sp := same_new (o := .tup [.int ((bts ds cs bs).getD o.toNat 0), .ref N]) hp
      have s46 := (s4.trans s5).trans sp
      have eL6 := s46 _ _ eL
      have e1 : (stp m ds o cs)[i]? = some ((bts ds cs bs).getD o.toNat 0, nxt ds cs (bts ds cs bs)) := by
        unfold stp
        rw [List.getElem?_map, hb1]
        rfl
      have pl := awLen hs
      rw [List.length_take] at pl
      have tp := tups_put (o := .lst (ps.map V.ref ++ [V.ref p])) eL6
      refine ⟨L, _, _, rfl, rfl, eL6, ?_, some (.ref fs[i]), some (.ref T), ps ++ [p], rfl, ?_, ?_, ?_, ?_, ?_⟩
      · rw [List.length_map]
        exact small1000 (by omega)
      · rw [upd_same, List.map_append]
        rfl
      · rw [List.take_add_one, e1]
        exact stat_stay tp (awSnoc (F := fun (q : Addr) (e : Int × List Int) => ∃ c, (upd H5 p (.tup [.int ((bts ds cs bs).getD o.toNat 0), .ref N])) q = some (.tup [.int e.1, .ref c]) ∧ (upd H5 p (.tup [.int ((bts ds cs bs).getD o.toNat 0), .ref N])) c = some (.tup (e.2.map V.int))) ⟨N, upd_same, sp _ _ eN⟩ (stat_stay (Same.tups s46) hs))
      · rw [upd_ne nLB]
        exact s46 _ _ eB3
      · exact tat_stay tp (tat_stay (Same.tups s46) hf3)
      · exact old _ _ (s3.trans s46)
    · obtain ⟨y3, y4, ps, rfl, eL, hs, eB3, hf3, s3⟩ := hp
      rw [List.length_map, fl, ← stp_len m ds o cs, List.take_length] at hs
      exact ⟨.ref L, rfl, q _ L ps s3 hL eL hs⟩
/-! ### dicts by lists of ints -/
abbrev kI (c : List Int) : List Key := c.map Sum.inl
theorem kI_V (c : List Int) : (kI c).map kV = c.map V.int := by
  rw [List.map_map]
  rfl
theorem ints_inj : ∀ {a b : List Int}, a.map V.int = b.map V.int → a = b
  | [], [], _ => rfl
  | [], _ :: _, h => nomatch h
  | _ :: _, [], h => nomatch h
  | x :: a, y :: b, h => by
    rw [List.map_cons, List.map_cons, List.cons.injEq] at h
    rw [V.int.inj h.1, ints_inj h.2]
theorem kI_inj {a b : List Int} (h : kI a = kI b) : a = b := by
  have e := congrArg (List.map kV) h
  rw [kI_V, kI_V] at e
  exact ints_inj e
section tab
variable {α : Type}
def emb (f : α → V) (es : List (List Int × α)) : List (List Key × V) := es.map fun e => (kI e.1, f e.2)
def getA (es : List (List Int × α)) (c : List Int) : Option α := (es.find? fun e => decide (e.1 = c)).map (·.2)
def putA (es : List (List Int × α)) (c : List Int) (v : α) : List (List Int × α) := if c ∈ es.map (·.1) then es.map (fun e => if e.1 = c then (e.1, v) else e) else es ++ [(c, v)]
theorem emb_get (f : α → V) (c : List Int) : ∀ es : List (List Int × α), valV (emb f es) (kI c) = (getA es c).map f
  | [] => rfl
  | e :: es => by
    have ih := emb_get f c es
    unfold emb getA at *
    rw [List.map_cons, List.find?_cons]
    by_cases h : e.1 = c
    · rw [valV_pos (show (kI e.1, f e.2).1 = kI c by rw [h]), decide_eq_true h]
      rfl
    · rw [valV_neg (fun z => h (kI_inj z)), decide_eq_false h]
      exact ih
theorem getA_none {c : List Int} : ∀ {es : List (List Int × α)}, getA es c = none ↔ c ∉ es.map (·.1)
  | [] => by simp [getA]
  | e :: es => by
    have ih := getA_none (c := c) (es := es)
    unfold getA at *
    rw [List.find?_cons, List.map_cons, List.mem_cons, not_or]
    by_cases h : e.1 = c
    · simp [h]
    · rw [decide_eq_false h]
      exact ⟨fun z => ⟨fun y => h y.symm, ih.mp z⟩, fun z => ih.mpr z.2⟩
theorem getA_some {c : List Int} {v : α} {es : List (List Int × α)} (h : getA es c = some v) : (c, v) ∈ es := by
  unfold getA at h
  cases e : es.find? fun e => decide (e.1 = c) with
  | none => rw [e] at h; cases h
  | some p =>
    rw [e] at h
    have h1 := List.mem_of_find?_eq_some e
    have h2 : p.1 = c := of_decide_eq_true (List.find?_some (p := fun e : List Int × α => decide (e.1 = c)) e)
    obtain rfl : p.2 = v := Option.some.inj h
    rw [← h2]
    exact h1
theorem getA_of {c : List Int} {v : α} : ∀ {es : List (List Int × α)}, (es.map (·.1)).Nodup → (c, v) ∈ es → getA es c = some v
  | [], _, h => nomatch h
  | e :: es, nd, h => by
    rw [List.map_cons, List.nodup_cons] at nd
    unfold getA
    rw [List.find?_cons]
    rcases List.mem_cons.mp h with h | h
    · rw [← h]
      simp
    · have hne : ¬ e.1 = c := fun z => nd.1 (z ▸ List.mem_map.mpr ⟨_, h, rfl⟩)
      rw [decide_eq_false hne]
      exact getA_of nd.2 h
theorem emb_put (f : α → V) (es : List (List Int × α)) (c : List Int) (v : α) : putK (emb f es) (kI c) (f v) = emb f (putA es c v) := by
  unfold putK putA
  by_cases h : c ∈ es.map (·.1)
  · rw [if_pos h, if_pos]
    · unfold emb
      rw [List.map_map, List.map_map]
      apply List.map_congr_left
      intro e _
      show (if kI e.1 = kI c then (kI e.1, f v) else (kI e.1, f e.2)) = _
      by_cases he : e.1 = c
      · rw [if_pos (congrArg kI he)]
        simp [he]
      · rw [if_neg (fun z => he (kI_inj z))]
        simp [he]
    · rw [List.any_eq_true]
      obtain ⟨e, h1, h2⟩ := List.mem_map.mp h
      exact ⟨(kI e.1, f e.2), List.mem_map.mpr ⟨e, h1, rfl⟩, by simp [h2]⟩
  · rw [if_neg h, if_neg]
    · unfold emb
      rw [List.map_append]
      rfl
    · intro z
      rw [List.any_eq_true] at z
      obtain ⟨p, h1, h2⟩ := z
      obtain ⟨e, h3, rfl⟩ := List.mem_map.mp h1
      exact h (List.mem_map.mpr ⟨e, h3, kI_inj (of_decide_eq_true h2)⟩)
theorem putA_keys {es : List (List Int × α)} {c : List Int} {v : α} : (putA es c v).map (·.1) = if c ∈ es.map (·.1) then es.map (·.1) else es.map (·.1) ++ [c] := by
  unfold putA
  split
  · rw [List.map_map]
    apply List.map_congr_left
    intro e _
    show (if e.1 = c then (e.1, v) else e).1 = e.1
    split <;> rfl
  · rw [List.map_append]
    rfl
theorem putA_nodup {es : List (List Int × α)} {c : List Int} {v : α} (h : (es.map (·.1)).Nodup) : ((putA es c v).map (·.1)).Nodup := by
  rw [putA_keys]
  split
  · exact h
  · rename_i hn
    rw [List.nodup_append]
    refine ⟨h, by simp, fun a ha b hb => ?_⟩
    rw [List.mem_singleton.mp hb]
    exact fun z => hn (z ▸ ha)
theorem mem_putA {es : List (List Int × α)} {c : List Int} {v : α} {e : List Int × α} : e ∈ putA es c v ↔ e = (c, v) ∨ (e ∈ es ∧ e.1 ≠ c) := by
  unfold putA
  by_cases h : c ∈ es.map (·.1)
  · rw [if_pos h, List.mem_map]
    constructor
    · rintro ⟨a, h1, rfl⟩
      by_cases ha : a.1 = c
      · rw [if_pos ha, ha]
        exact .inl rfl
      · rw [if_neg ha]
        exact .inr ⟨h1, ha⟩
    · rintro (rfl | ⟨h1, h2⟩)
      · obtain ⟨a, h1, h2⟩ := List.mem_map.mp h
        exact ⟨a, h1, by rw [if_pos h2, h2]⟩
      · exact ⟨e, h1, if_neg h2⟩
  · rw [if_neg h, List.mem_append, List.mem_singleton]
    constructor
    · rintro (h1 | h1)
      · exact .inr ⟨h1, fun z => h (z ▸ List.mem_map.mpr ⟨e, h1, rfl⟩)⟩
      · exact .inl h1
    · rintro (h1 | h1)
      · exact .inr h1
      · exact .inl h1.1
end tab
/-- few: all keys are bits, as many as there are deeds -/
theorem few_keys {α : Type} {n : Nat} {es : List (List Int × α)} (nd : (es.map (·.1)).Nodup) (hb : ∀ e ∈ es, e.1.length = n ∧ ∀ x ∈ e.1, Bit x) (hn : n ≤ 8) : es.length ≤ 256 := by
  have h := pigeon (es.map (·.1)) (allB n) nd fun c hc => by
    obtain ⟨e, he, rfl⟩ := List.mem_map.mp hc
    exact allB_all n _ (hb e he).1 (hb e he).2
  rw [List.length_map, allB_len] at h
  exact Nat.le_trans h (Nat.le_trans (Nat.pow_le_pow_right (by decide) hn) (by decide))
/-! ### machines of all carries -/
/-- things come in the order in which they are first met -/
def FOrd {L : Type} (nx : L → List (Int × L)) (cs : List L) : Prop := ∀ (k : Nat) (c : L), 0 < k → cs[k]? = some c → ∃ (p t : Nat) (a : L) (s : Int × L), p < k ∧ cs[p]? = some a ∧ (nx a)[t]? = some s ∧ s.2 = c ∧
  ∀ (p' t' : Nat) (a' : L) (s' : Int × L), (p' < p ∨ p' = p ∧ t' < t) → cs[p']? = some a' → (nx a')[t']? = some s' → ∃ j, j < k ∧ cs[j]? = some s'.2
theorem FOrd.one {L : Type} {nx : L → List (Int × L)} {c : L} : FOrd nx [c] := fun k c' h1 h2 => by
  have := (List.getElem?_eq_some_iff.mp h2).1
  simp only [List.length_cons, List.length_nil] at this
  omega
theorem FOrd.push {L : Type} {nx : L → List (Int × L)} {cs : List L} (h : FOrd nx cs) {p t : Nat} {a : L} {s : Int × L} (hp : cs[p]? = some a) (hs : (nx a)[t]? = some s)
    (all : ∀ (p' t' : Nat) (a' : L) (s' : Int × L), (p' < p ∨ p' = p ∧ t' < t) → cs[p']? = some a' → (nx a')[t']? = some s' → ∃ j : Nat, cs[j]? = some s'.2) : FOrd nx (cs ++ [s.2]) := by
  have pl := (List.getElem?_eq_some_iff.mp hp).1
  have up : ∀ (i : Nat) (x : L), cs[i]? = some x → (cs ++ [s.2])[i]? = some x := fun i x e => by rw [List.getElem?_append_left (List.getElem?_eq_some_iff.mp e).1]; exact e
  have dn : ∀ (i : Nat) (x : L), i < cs.length → (cs ++ [s.2])[i]? = some x → cs[i]? = some x := fun i x hi e => by rwa [List.getElem?_append_left hi] at e
  intro k c hk hc
  by_cases hl : k < cs.length
  · obtain ⟨p1, t1, a1, s1, e1, e2, e3, e4, e5⟩ := h k c hk (dn k c hl hc)
    refine ⟨p1, t1, a1, s1, e1, up _ _ e2, e3, e4, fun p' t' a' s' h1 h2 h3 => ?_⟩
    obtain ⟨j, g1, g2⟩ := e5 p' t' a' s' h1 (dn p' a' (by omega) h2) h3
    exact ⟨j, g1, up _ _ g2⟩
  · have kl := (List.getElem?_eq_some_iff.mp hc).1
    rw [List.length_append] at kl
    simp only [List.length_cons, List.length_nil] at kl
    have ek : k = cs.length := by omega
    subst ek
    rw [List.getElem?_append_right (Nat.le_refl _), Nat.sub_self] at hc
    refine ⟨p, t, a, s, pl, up _ _ hp, hs, Option.some.inj hc, fun p' t' a' s' h1 h2 h3 => ?_⟩
    obtain ⟨j, g⟩ := all p' t' a' s' h1 (dn p' a' (by omega) h2) h3
    exact ⟨j, (List.getElem?_eq_some_iff.mp g).1, up _ _ g⟩
theorem nd_idx {L : Type} {cs : List L} (nd : cs.Nodup) {i j : Nat} {x : L} (h1 : cs[i]? = some x) (h2 : cs[j]? = some x) : i = j := by
  have l1 := (List.getElem?_eq_some_iff.mp h1).1
  exact (List.getElem?_inj l1 nd).mp (h1.trans h2.symm)
/-- there is one such order only -/
theorem ford_pre {L : Type} {nx : L → List (Int × L)} {cs cs' : List L} (nd : cs.Nodup) (nd' : cs'.Nodup) (h0 : cs[0]? = cs'[0]?) (f : FOrd nx cs) (f' : FOrd nx cs') :
    ∀ (n k : Nat) (c c' : L), k < n → cs[k]? = some c → cs'[k]? = some c' → c = c'
  | 0, _, _, _, h, _, _ => absurd h (Nat.not_lt_zero _)
  | n + 1, k, c, c', hk, e, e' => by
    have ih := ford_pre nd nd' h0 f f' n
    by_cases hz : k = 0
    · subst hz
      rw [e, e'] at h0
      exact Option.some.inj h0
    have kl := (List.getElem?_eq_some_iff.mp e).1
    have kl' := (List.getElem?_eq_some_iff.mp e').1
    have to : ∀ (j : Nat) (x : L), j < k → cs[j]? = some x → cs'[j]? = some x := fun j x hj ex => by
      have e2 : cs'[j]? = some cs'[j] := List.getElem?_eq_getElem (by omega)
      rw [e2, ih j x _ (by omega) ex e2]
    have fro : ∀ (j : Nat) (x : L), j < k → cs'[j]? = some x → cs[j]? = some x := fun j x hj ex => by
      have e2 : cs[j]? = some cs[j] := List.getElem?_eq_getElem (by omega)
      rw [e2, ih j _ x (by omega) e2 ex]
    obtain ⟨p, t, a, s, a1, a2, a3, a4, a5⟩ := f k c (by omega) e
    obtain ⟨q, u, b, r, b1, b2, b3, b4, b5⟩ := f' k c' (by omega) e'
    rcases Nat.lt_trichotomy p q with h | h | h
    · obtain ⟨j, g1, g2⟩ := b5 p t a s (.inl h) (to p a a1 a2) a3
      rw [a4] at g2
      have := nd_idx nd (fro j c g1 g2) e
      omega
    · subst h
      have hab := to p a a1 a2
      rw [b2] at hab
      obtain rfl := Option.some.inj hab
      rcases Nat.lt_trichotomy t u with h | h | h
      · obtain ⟨j, g1, g2⟩ := b5 p t b s (.inr ⟨rfl, h⟩) b2 a3
        rw [a4] at g2
        have := nd_idx nd (fro j c g1 g2) e
        omega
      · subst h
        rw [a3] at b3
        rw [← a4, ← b4, Option.some.inj b3]
      · obtain ⟨j, g1, g2⟩ := a5 p u b r (.inr ⟨rfl, h⟩) a2 b3
        rw [b4] at g2
        have := nd_idx nd' (to j c' g1 g2) e'
        omega
    · obtain ⟨j, g1, g2⟩ := a5 q u b r (.inl h) (fro q b b1 b2) b3
      rw [b4] at g2
      have := nd_idx nd' (to j c' g1 g2) e'
      omega
theorem ford_len {L : Type} {nx : L → List (Int × L)} {cs cs' : List L} (nd : cs.Nodup) (nd' : cs'.Nodup) (h0 : cs[0]? = cs'[0]?) (f : FOrd nx cs) (f' : FOrd nx cs') (cl : ∀ a ∈ cs, ∀ s ∈ nx a, s.2 ∈ cs) (pos : 0 < cs.length) : cs'.length ≤ cs.length := by
  apply Nat.le_of_not_lt
  intro hl
  have e' : cs'[cs.length]? = some cs'[cs.length] := List.getElem?_eq_getElem hl
  obtain ⟨p, t, a, s, a1, a2, a3, a4, _⟩ := f' _ _ pos e'
  have ep : cs[p]? = some cs[p] := List.getElem?_eq_getElem a1
  have := ford_pre nd nd' h0 f f' (p + 1) p _ _ (Nat.lt_succ_self _) ep a2
  have m1 := cl cs[p] (List.getElem_mem a1) s (by rw [this]; exact List.mem_of_getElem? a3)
  obtain ⟨j, hj⟩ := List.mem_iff_getElem?.mp m1
  have jl := (List.getElem?_eq_some_iff.mp hj).1
  have ej : cs'[j]? = some cs'[j] := List.getElem?_eq_getElem (by omega)
  have := ford_pre nd nd' h0 f f' (j + 1) j _ _ (Nat.lt_succ_self _) hj ej
  have h3 := nd_idx nd' (x := s.2) (by rw [ej, ← this]) (by rw [e', a4])
  omega
theorem ford_eq {L : Type} {nx : L → List (Int × L)} {cs cs' : List L} (nd : cs.Nodup) (nd' : cs'.Nodup) (h0 : cs[0]? = cs'[0]?) (f : FOrd nx cs) (f' : FOrd nx cs') (cl : ∀ a ∈ cs, ∀ s ∈ nx a, s.2 ∈ cs) (cl' : ∀ a ∈ cs', ∀ s ∈ nx a, s.2 ∈ cs') (pos : 0 < cs.length) (pos' : 0 < cs'.length) : cs = cs' := by
  have l1 := ford_len nd nd' h0 f f' cl pos
  have l2 := ford_len nd' nd h0.symm f' f cl' pos'
  refine List.ext_getElem (by omega) fun i h1 h2 => ?_
  exact ford_pre nd nd' h0 f f' (i + 1) i _ _ (Nat.lt_succ_self _) (List.getElem?_eq_getElem h1) (List.getElem?_eq_getElem h2)
abbrev MRow := List (Int × Int)
abbrev PrAt (H : Hp) : List Addr → MRow → Prop := Paired fun q e => H q = some (.tup [.int e.1, .int e.2])
theorem prat_stay {H H' : Hp} (t : TupsStay H H') {qs : List Addr} {r : MRow} (h : PrAt H qs r) : PrAt H' qs r := awMap (fun q e z => t _ _ z) h
def RowL (H : Hp) (l : Addr) (row : MRow) : Prop := ∃ qs, H l = some (.lst (qs.map V.ref)) ∧ PrAt H qs row
abbrev MacL (H : Hp) : List Addr → List MRow → Prop := Paired (RowL H)
theorem macl_stay {H H' : Hp} (t : TupsStay H H') : ∀ {ls : List Addr} {mac : List MRow}, (∀ l ∈ ls, ∀ xs, H l = some (.lst xs) → H' l = some (.lst xs)) → MacL H ls mac → MacL H' ls mac
  | _, _, _, .nil => .nil
  | _, _, k, .cons ⟨qs, h1, h2⟩ h => .cons ⟨qs, k _ List.mem_cons_self _ h1, prat_stay t h2⟩ (macl_stay t (fun l hl => k l (List.mem_cons_of_mem _ hl)) h)
def kC (c : List Int) : NestedKey := .tup (c.map .num)
theorem nums_inj : ∀ {a b : List Int}, a.map NestedKey.num = b.map NestedKey.num → a = b
  | [], [], _ => rfl
  | [], _ :: _, h => nomatch h
  | _ :: _, [], h => nomatch h
  | x :: a, y :: b, h => by
    rw [List.map_cons, List.map_cons, List.cons.injEq] at h
    rw [NestedKey.num.inj h.1, nums_inj h.2]
theorem kC_inj {a b : List Int} (h : kC a = kC b) : a = b := nums_inj (NestedKey.tup.inj h)
theorem nums_depth : ∀ c : List Int, NestedKey.depthAll (c.map .num) = 0
  | [] => by simp [NestedKey.depthAll]
  | x :: c => by simp [NestedKey.depthAll, NestedKey.depth, nums_depth c]
theorem kC_depth (c : List Int) : (kC c).depth ≤ 8 := by
  unfold kC
  simp [NestedKey.depth, nums_depth c]
theorem nks_ints (H : Hp) : ∀ c : List Int, NkAll H (c.map .num) (c.map V.int)
  | [] => .nil
  | x :: c => .cons (.num x) (nks_ints H c)
theorem nks_eq {H : Hp} : ∀ {c : List Int} {xs : List V}, NkAll H (c.map .num) xs → xs = c.map V.int
  | [], _, h => by
    cases h
    rfl
  | x :: c, _, h => by
    cases h with
    | cons h1 h2 =>
      cases h1
      rw [nks_eq h2]
      rfl
theorem keyC {H : Hp} {b : Addr} {c : List Int} (h : H b = some (.tup (c.map V.int))) : KeyN H (.ref b) (kC c) := ⟨.tup h (nks_ints H c), kC_depth c, b, rfl⟩
theorem keyC_tup {H : Hp} {b : Addr} {c : List Int} (h : KeyN H (.ref b) (kC c)) : H b = some (.tup (c.map V.int)) := by
  obtain ⟨h1, _⟩ := h
  unfold kC at h1
  cases h1 with
  | tup e hs =>
    rw [nks_eq hs] at e
    exact e
/-- a row of the machine of all carries -/
abbrev RowM (cs : List (List Int)) : MRow → List (Int × List Int) → Prop := Paired fun e s => e.1 = s.1 ∧ ∃ j : Nat, e.2 = (j : Int) ∧ cs[j]? = some s.2
structure WM (m : Nat) (ds : List Deed) (o : Int) (cs : List (List Int)) (mac : List MRow) : Prop where
  nd : cs.Nodup
  first : cs[0]? = some (ds.map fcD)
  bits : ∀ c ∈ cs, c.length = ds.length ∧ ∀ x ∈ c, Bit x
  each : ∀ (i : Nat) row, mac[i]? = some row → ∃ c, cs[i]? = some c ∧ RowM cs row (stp m ds o c)
  fo : FOrd (stp m ds o) cs
theorem few_cs {n : Nat} {cs : List (List Int)} (nd : cs.Nodup) (hb : ∀ c ∈ cs, c.length = n ∧ ∀ x ∈ c, Bit x) (hn : n ≤ 8) : cs.length ≤ 256 := by
  have h := pigeon cs (allB n) nd fun c hc => allB_all n _ (hb c hc).1 (hb c hc).2
  rw [allB_len] at h
  exact Nat.le_trans h (Nat.le_trans (Nat.pow_le_pow_right (by decide) hn) (by decide))
theorem keys_nd {cs : List (List Int)} {ts : List WT} (h : (ts.map (·.1)).Nodup) (e : ts.map (·.1) = cs.map kC) : cs.Nodup := by
  rw [e] at h
  exact List.Pairwise.imp (fun {a b} z y => z (congrArg kC y)) (List.pairwise_map.mp h)
theorem keys_at {cs : List (List Int)} {ts : List WT} (e : ts.map (·.1) = cs.map kC) {i : Nat} {t : WT} (h : ts[i]? = some t) : ∃ c, cs[i]? = some c ∧ t.1 = kC c := by
  have h1 : (ts.map (·.1))[i]? = some t.1 := by rw [List.getElem?_map, h]; rfl
  rw [e, List.getElem?_map] at h1
  cases hc : cs[i]? with
  | none => rw [hc] at h1; cases h1
  | some c => rw [hc] at h1; exact ⟨c, rfl, (Option.some.inj h1).symm⟩
theorem keys_len {cs : List (List Int)} {ts : List WT} (e : ts.map (·.1) = cs.map kC) : ts.length = cs.length := by
  have := congrArg List.length e
  rwa [List.length_map, List.length_map] at this
def spWh : Sp := fun vs H Q _ => ∃ (R : Addr) (m : Nat) (o : Int) (ds : List Deed), vs = [.ref R] ∧ RowAt H R m ds o ∧ RowOk m ds o ∧
  ∀ H' p ls cs mac, Same H H' → H p = none → H' p = some (.lst (ls.map V.ref)) → MacL H' ls mac → WM m ds o cs mac → mac.length = cs.length → Q (.ref p) H'
theorem ok_wh {f fA fF fS fI fM C : Addr} {fd fdA fdF fdS fdI fdM : FuncData} {k : Nat} (F : Fun K "whole_machine" "whole_machine" s_whole_machine f fd) (T : WCls K mg C)
    (GA : FnOk P w K mg base CX0 (k + 1) fA fdA ["many"] spAll) (kA : PySem.W.keepIn K (.ref fA) = true) (bA : Binds K fdA ["many"] []) (gA : mg "all_bits" = some (.ref fA))
    (GF : FnOk P w K mg base CX0 (k + 1) fF fdF ["row"] spFc) (kF : PySem.W.keepIn K (.ref fF) = true) (bF : Binds K fdF ["row"] []) (gF : mg "first_carry" = some (.ref fF))
    (GS : FnOk P w K mg base CX0 (k + 4) fS fdS ["row", "carry"] spSt) (kS : PySem.W.keepIn K (.ref fS) = true) (bS : Binds K fdS ["row", "carry"] []) (gS : mg "steps" = some (.ref fS))
    (MK : Mk K C fI) (GI : FnOk P w K mg base CX0 (k + 1) fI fdI ["self", "first"] (spWi P w C)) (bI : Binds K fdI ["self", "first"] [])
    (MM : Meth K C "meet" fM) (GM : FnOk P w K mg base CX0 (k + 1) fM fdM ["self", "thing", "ahead", "bits"] (spWm P w C)) (bM : Binds K fdM ["self", "thing", "ahead", "bits"] [])
    (mn : mg "len" = none) (mz : mg "zip" = none) : FnOk P w K mg base CX0 (k + 5) f fd ["row"] spWh := by
  refine F.ok sc_whole_machine (fun vs H Q E h => ?_) (fun cdv A outer s H vs Q E hr h => ?_)
  · obtain ⟨R, m, o, ds, rfl, _⟩ := h
    rfl
  · obtain ⟨R, m, o, ds, rfl, hrow, hok, q⟩ := h
    obtain ⟨D, rs, eR, eD, hd⟩ := id hrow
    have r1 := hr.mono (show k + 1 ≤ k + 4 by omega)
    have r2 := hr.mono (show k + 1 + 1 ≤ k + 4 by omega)
    refine ⟨_, pss_cons (ps_set (i := 1) sc_whole_machine.nd rfl (.inl rfl) (pe_call GA r1 (by rfl) gA kA bA .nil pass0 (pa_cons (pe_ix ix_tup (pv 0) pe_int (fun _ _ => rfl)) pa_nil)))
      (pss_cons (ps_set (i := 2) sc_whole_machine.nd rfl (.inl rfl) (pe_make MK GI r2 (by rfl) T.mgC bI .nil pass0 (pa_cons (pe_call GF r1 (by rfl) gF kF bF .nil pass0 (pa_cons (pv 0) pa_nil)) pa_nil)))
      (pss_cons (ps_set (i := 3) sc_whole_machine.nd rfl (.inl rfl) (pe_lst pa_nil))
      (pss_cons (ps_while PassesOwn.never (pt_cmpR op_lt (pe_callB call_len_seq (by rfl) mn PySem.boot_len (pa_cons (pv 3) pa_nil)) (pe_callB call_len_seq (by rfl) mn PySem.boot_len (pa_cons (pe_fld (pv 2) rfl) pa_nil)) (nomark _))
        (pss_cons (ps_set (i := 4) sc_whole_machine.nd rfl (.inl rfl) (pe_callB call_len_seq (by rfl) mn PySem.boot_len (pa_cons (pv 3) pa_nil)))
        (pss_cons (ps_set (i := 5) sc_whole_machine.nd rfl (.inl rfl) (pe_ix ix_list (pe_fld (pv 2) rfl) (pv 4) (fun _ _ => rfl)))
        (pss_cons (ps_set (i := 6) sc_whole_machine.nd rfl (.inl rfl) (pe_lst pa_nil))
        (pss_cons (ps_for PassesOwn.never rfl (pi_zip (by rfl) mz (pa_cons (pv 1) (pa_cons (pe_call GS hr (by rfl) gS kS bS .nil pass0 (pa_cons (pv 0) (pa_cons (pv 5) pa_nil))) pa_nil))) (pg_tup rfl (pgs_cons (pg_name (i := 7) sc_whole_machine.nd rfl (.inl rfl)) (pgs_cons (pg_tup rfl (pgs_cons (pg_name (i := 8) sc_whole_machine.nd rfl (.inl rfl)) (pgs_cons (pg_name (i := 9) sc_whole_machine.nd rfl (.inl rfl)) pgs_nil))) pgs_nil)))
          (pss_one (ps_expr (pe_bm PySem.F.plainAttrs_list PySem.F.slot_list_append PySem.F.type_list_append mt_append (pv 6) (pa_cons (pe_tup (pa_cons (pv 8) (pa_cons (pe_meth (pv 2) T.cl MM GM r1 bM .nil pass0 (pa_cons (pv 9) (pa_cons (pv 4) (pa_cons (pv 7) pa_nil)))) pa_nil))) pa_nil)))))
        (pss_one (ps_expr (pe_bm PySem.F.plainAttrs_list PySem.F.slot_list_append PySem.F.type_list_append mt_append (pv 3) (pa_cons (pv 6) pa_nil)))))))))
      (pss_one (ps_ret (pv 3)))))), ?_⟩
    have l8 := hok.len
    have m3 := hok.m3
    refine ⟨.ref R, rfl, R, _, 0, .int m, rfl, rfl, SqT.of eR, rfl, m, rfl, by omega, fun H1 Ch fs s1 nCh eCh hf => ?_⟩
    have fl : fs.length = 2 ^ m := by rw [awLen hf, allB_len]
    refine ⟨.ref R, rfl, R, m, o, ds, rfl, (Same.tups s1).row hrow, by omega, fun H2 Fi s2 nFi eFi => ?_⟩
    intro Wk dx nWk ndx nex
    have tW : TupsStay H2 (upd (upd H2 dx (.own Wk)) Wk (.ins C dx [])) := fun c xs e => by
      rw [upd_ne (ne_of_none e nWk), upd_ne (ne_of_none e ndx)]
      exact e
    have kW : ∀ c u, H2 c = some u → upd (upd H2 dx (.own Wk)) Wk (.ins C dx []) c = some u := fun c u e => by
      rw [upd_ne (ne_of_none e nWk), upd_ne (ne_of_none e ndx)]
      exact e
    refine ⟨Wk, dx, Fi, kC (ds.map fcD), rfl, upd_same, keyC (tW _ _ eFi), fun H3 M N W hw nM nN nW kp => ⟨rfl, ?_⟩⟩
    have s3 : Same H2 H3 := fun c u e => kp c u (ne_of_none e nWk) (kW c u e)
    have s13 := (s1.trans s2).trans s3
    have back : ∀ a : Addr, upd (upd H2 dx (.own Wk)) Wk (.ins C dx []) a = none → H2 a = none := fun a h => by
      cases e : H2 a with
      | none => rfl
      | some u => rw [kW a u e] at h; cases h
    have hM2 := back _ nM
    have hN2 := back _ nN
    have hW2 := back _ nW
    have hM0 : H M = none := (s1.trans s2).free hM2
    have hN0 : H N = none := (s1.trans s2).free hN2
    have hW0 : H W = none := (s1.trans s2).free hW2
    have eCh2 := s2 _ _ eCh
    have nChM : Ch ≠ M := ne_of_none eCh2 hM2
    have nChN : Ch ≠ N := ne_of_none eCh2 hN2
    have nChW : Ch ≠ W := ne_of_none eCh2 hW2
    refine ⟨Nat.zero_le _, fun Mc hMc => ?_⟩
    have sMc := same_new (o := .lst []) hMc
    have nMM : Mc ≠ M := fun z => by rw [z, hw.met] at hMc; cases hMc
    have nMN : Mc ≠ N := fun z => by rw [z, hw.num.ob] at hMc; cases hMc
    have nMW : Mc ≠ W := fun z => by obtain ⟨ws, e, _⟩ := hw.ways; rw [z, e] at hMc; cases hMc
    have nMCh : Mc ≠ Ch := fun z => by rw [z, s3 _ _ eCh2] at hMc; cases hMc
    have hMc0 : H Mc = none := s13.free hMc
    refine ⟨fun n σ H4 => ∃ y4 y5 y6 y7 y8 y9 cs ts wy ls mac, σ = [some (.ref R), some (.ref Ch), some (.ref Wk), some (.ref Mc), y4, y5, y6, y7, y8, y9] ∧ WalkAt P w C H4 Wk M N W ts wy ∧ ts.map (·.1) = cs.map kC ∧ WM m ds o cs mac ∧ mac.length ≤ cs.length ∧ H4 Mc = some (.lst (ls.map V.ref)) ∧ MacL H4 ls mac ∧ (∀ l ∈ ls, l ≠ M ∧ l ≠ N ∧ l ≠ W ∧ l ≠ Mc) ∧ H4 Ch = some (.lst (fs.map V.ref)) ∧ TAt H4 fs (allB m) ∧ Same H H4 ∧ n = 257 - mac.length,
      ⟨_, none, none, none, none, none, none, [ds.map fcD], [(kC (ds.map fcD), Fi)], [(0, [])], [], [], rfl, hw.same sMc, rfl, ⟨by simp, rfl, fun c hc => ?_, fun i row h => by simp at h, FOrd.one⟩, Nat.zero_le _, upd_same, .nil, (fun _ z => nomatch z), sMc _ _ (s3 _ _ eCh2), tat_stay (Same.tups ((s2.trans s3).trans sMc)) hf, s13.trans sMc, rfl⟩, fun n σ H4 hp => ?_⟩
    · rw [List.mem_singleton.mp hc]
      have sh := shp_first ds
      exact ⟨sh.len, sh.bits⟩
    obtain ⟨y4, y5, y6, y7, y8, y9, cs, ts, wy, ls, mac, rfl, hw4, ek, wm, ml, eMc, hmac, lsne, eCh4, hf4, s4, rfl⟩ := hp
    obtain ⟨dxw, ob4⟩ := hw4.ob
    have csl := keys_len ek
    have few := few_cs wm.nd wm.bits l8
    have mll := awLen hmac
    refine ⟨.ref Mc, rfl, Mc, _, rfl, .inl (.inl (.inl eMc)), .ref Wk, rfl, Wk, C, dxw, _, _, rfl, ob4, T.cl, T.nM, wF_met _ _ _, M, _, rfl, .inl (.inl (.inl hw4.met)), _, _, rfl, rfl, _, rfl, ite2 (fun e => ?_) (fun e => ?_)⟩
    · have lt : mac.length < cs.length := by
        have := of_decide_eq_true e
        rw [List.length_map, List.length_map] at this
        omega
      refine ⟨fun σ' H' => ∃ m', m' < 257 - mac.length ∧ (∃ y4 y5 y6 y7 y8 y9 cs ts wy ls mac, σ' = [some (.ref R), some (.ref Ch), some (.ref Wk), some (.ref Mc), y4, y5, y6, y7, y8, y9] ∧ WalkAt P w C H' Wk M N W ts wy ∧ ts.map (·.1) = cs.map kC ∧ WM m ds o cs mac ∧ mac.length ≤ cs.length ∧ H' Mc = some (.lst (ls.map V.ref)) ∧ MacL H' ls mac ∧ (∀ l ∈ ls, l ≠ M ∧ l ≠ N ∧ l ≠ W ∧ l ≠ Mc) ∧ H' Ch = some (.lst (fs.map V.ref)) ∧ TAt H' fs (allB m) ∧ Same H H' ∧ m' = 257 - mac.length), fun σ' H' z => z, ?_⟩
      have lenI : ((ls.map V.ref).length : Int) = ((mac.length : Nat) : Int) := by rw [List.length_map, mll]
      refine ⟨.ref Mc, rfl, Mc, _, rfl, .inl (.inl (.inl eMc)), ?_⟩
      rw [lenI]
      have hti : mac.length < ts.length := by omega
      obtain ⟨c0, hc0, ht1⟩ := keys_at ek (List.getElem?_eq_getElem hti)
      have hkey := hw4.keys _ (List.getElem_mem hti)
      rw [ht1] at hkey
      have ecb := keyC_tup hkey
      obtain ⟨c0l, c0b⟩ := wm.bits c0 (List.mem_of_getElem? hc0)
      refine ⟨.ref Wk, rfl, Wk, C, dxw, _, _, rfl, ob4, T.cl, T.nM, wF_met _ _ _, .int _, rfl, M, _, _, .ref (ts[mac.length]).2, rfl, rfl, .inl (.inl hw4.met), atI_nat (by rw [List.getElem?_map, List.getElem?_eq_getElem hti]; rfl), ?_⟩
      generalize (ts[mac.length]).2 = cb at ecb
      refine ⟨Nat.zero_le _, fun St hSt => ?_⟩
      have sSt := same_new (o := .lst []) hSt
      have nSM : St ≠ M := fun z => by rw [z, hw4.met] at hSt; cases hSt
      have nSN : St ≠ N := fun z => by rw [z, hw4.num.ob] at hSt; cases hSt
      have nSW : St ≠ W := fun z => by obtain ⟨ws, e, _⟩ := hw4.ways; rw [z, e] at hSt; cases hSt
      have nSMc : St ≠ Mc := fun z => by rw [z, eMc] at hSt; cases hSt
      have nSCh : St ≠ Ch := fun z => by rw [z, eCh4] at hSt; cases hSt
      have nSWk : St ≠ Wk := fun z => by rw [z, ob4] at hSt; cases hSt
      have nSls : ∀ l ∈ ls, l ≠ St := fun l hl z => by
        obtain ⟨i, hi⟩ := List.mem_iff_getElem?.mp hl
        obtain ⟨row, _, qs, h1, _⟩ := awGet hmac hi
        rw [z, hSt] at h1
        cases h1
      have hSt0 : H St = none := s4.free hSt
      refine ⟨.ref Ch, rfl, .ref R, rfl, .ref cb, rfl, R, cb, m, o, ds, c0, rfl, (Same.tups (s4.trans sSt)).row hrow, hok, sSt _ _ ecb, c0l, fun H5 Sp ps s5 nSp eSp hps => ?_⟩
      have s45 := sSt.trans s5
      have psl : ps.length = 2 ^ m := by rw [awLen hps, stp_len]
      have nSpM : Sp ≠ M := fun z => by rw [z, sSt _ _ hw4.met] at nSp; cases nSp
      have nSpN : Sp ≠ N := fun z => by rw [z, sSt _ _ hw4.num.ob] at nSp; cases nSp
      have nSpW : Sp ≠ W := fun z => by obtain ⟨ws, e, _⟩ := hw4.ways; rw [z, sSt _ _ e] at nSp; cases nSp
      have nSpS : Sp ≠ St := fun z => by rw [z, upd_same] at nSp; cases nSp
      have eCh5 := s45 _ _ eCh4
      have p8 : 2 ^ m ≤ 8 := Nat.le_trans (Nat.pow_le_pow_right (by decide) (show m ≤ 3 by omega)) (by decide)
      refine ⟨Ch, Sp, _, _, rfl, .inl (.inl eCh5), .inl (.inl eSp), for_it (walk_zip (K := K) (a := Ch) (b := Sp) (xs := fs.map V.ref) (ys := ps.map V.ref) (n := 2 ^ m) (by rw [List.length_map, List.length_map, fl, psl, Nat.min_self])) (fun j σ H6 => ∃ y7 y8 y9 cs' ts' wy' qs row, σ = [some (.ref R), some (.ref Ch), some (.ref Wk), some (.ref Mc), some (.int ((mac.length : Nat) : Int)), some (.ref cb), some (.ref St), y7, y8, y9] ∧ WalkAt P w C H6 Wk M N W ts' wy' ∧ ts'.map (·.1) = cs'.map kC ∧ (∀ (i : Nat) c, cs[i]? = some c → cs'[i]? = some c) ∧ (∀ c ∈ cs', c.length = ds.length ∧ ∀ x ∈ c, Bit x) ∧ FOrd (stp m ds o) cs' ∧ H6 St = some (.lst (qs.map V.ref)) ∧ PrAt H6 qs row ∧ RowM cs' row ((stp m ds o c0).take j) ∧ ∀ b u, b ≠ M → b ≠ N → b ≠ W → b ≠ St → H5 b = some u → H6 b = some u)
        ⟨y7, y8, y9, cs, ts, wy, [], [], rfl, hw4.same s45, ek, fun _ _ z => z, wm.bits, wm.fo, s5 _ _ upd_same, .nil, .nil, fun _ _ _ _ _ _ z => z⟩ (fun j σ H6 _ hp => ?_) (fun j x σ H6 H7 hj hp hy => ?_) (fun σ H6 hp => ?_)⟩
      · obtain ⟨_, _, _, _, _, _, _, _, _, _, _, _, _, _, _, _, _, st⟩ := hp
        exact ⟨.inl (.inl (st _ _ nChM nChN nChW nSCh.symm eCh5)), .inl (.inl (st _ _ nSpM nSpN nSpW nSpS eSp))⟩
      · obtain ⟨y7, y8, y9, cs', ts', wy', qs, row, rfl, hw6, ek6, pre, bit6, fo6, eSt6, hpr, hrm, st⟩ := hp
        obtain ⟨U, x1, x2, rfl, hU, rfl, g1, g2⟩ := hy
        have tup5 : ∀ b xs, H5 b = some (.tup xs) → H6 b = some (.tup xs) := fun b xs e => st b _ (ne_of e (s45 _ _ hw4.met) (fun y => nomatch y)) (ne_of e (s45 _ _ hw4.num.ob) (fun y => nomatch y)) (by obtain ⟨ws, e2, _⟩ := hw4.ways; exact ne_of e (s45 _ _ e2) (fun y => nomatch y)) (ne_of e (s5 _ _ upd_same) (fun y => nomatch y)) e
        have hjf : j < fs.length := by omega
        have hjp : j < ps.length := by omega
        have e1 : x1 = .ref fs[j] := by
          have g1' : (fs.map V.ref)[j]? = some x1 := g1
          rw [List.getElem?_map, List.getElem?_eq_getElem hjf] at g1'
          exact (Option.some.inj g1').symm
        have e2 : x2 = .ref ps[j] := by
          have g2' : (ps.map V.ref)[j]? = some x2 := g2
          rw [List.getElem?_map, List.getElem?_eq_getElem hjp] at g2'
          exact (Option.some.inj g2').symm
        subst e1 e2
        obtain ⟨bs, hb1, hb2⟩ := awGet hf4 (List.getElem?_eq_getElem hjf)
        obtain ⟨sb, hs1, ac, hs2, hs3⟩ := awGet hps (List.getElem?_eq_getElem hjp)
        have sU := same_new (o := .tup [.ref fs[j], .ref ps[j]]) hU
        have eb7 := sU _ _ (tup5 _ _ (s45 _ _ hb2))
        have e27 := sU _ _ (tup5 _ _ hs2)
        have e37 := sU _ _ (tup5 _ _ hs3)
        refine ⟨U, [.ref fs[j], .ref ps[j]], rfl, .inl (.inl upd_same), rfl, .ref fs[j], [.ref ps[j]], rfl, .ref ps[j], [], rfl, ps[j], [.int sb.1, .ref ac], rfl, .inl (.inl e27), rfl, .int sb.1, [.ref ac], rfl, .ref ac, [], rfl, rfl, rfl, ?_⟩
        have nUs : U ≠ St := fun z => by rw [z, eSt6] at hU; cases hU
        obtain ⟨dx6, ob6⟩ := hw6.ob
        have hw7 := hw6.same sU
        have l6 := keys_len ek6
        have few6 := few_cs (keys_nd hw6.nd ek6) bit6 l8
        refine ⟨.ref St, rfl, .inl ⟨rfl, _, .inl (.inl (sU _ _ eSt6))⟩, .int sb.1, rfl, .ref Wk, rfl, Wk, dx6, _, rfl, sU _ _ ob6, wF_meet _ _ _, .ref ac, rfl, .int ((mac.length : Nat) : Int), rfl, .ref fs[j], rfl, Wk, M, N, W, ac, fs[j], ts', wy', kC sb.2, ((mac.length : Nat) : Int), bs, rfl, hw7, keyC e37, eb7, by omega, fun H8 ts2 wy2 ix hw8 hix hcase kp8 => ?_⟩
        refine ⟨by show 2 ≤ sizeLine; decide, fun Pq hPq => ?_⟩
        have sP := same_new (o := .tup [.int sb.1, .int ((ix : Nat) : Int)]) hPq
        have eSt8 := kp8 _ _ nSM nSN nSW (sU _ _ eSt6)
        have hrl := awLen hpr
        have hrl2 := awLen hrm
        rw [List.length_take, stp_len] at hrl2
        have s8t : TupsStay H6 (upd H8 Pq (.tup [.int sb.1, .int ((ix : Nat) : Int)])) := fun b xs e => by
          have e7 := sU _ _ e
          obtain ⟨ws7, ew7, _⟩ := hw7.ways
          exact sP _ _ (kp8 b _ (ne_of e7 hw7.met (fun y => nomatch y)) (ne_of e7 hw7.num.ob (fun y => nomatch y)) (ne_of e7 ew7 (fun y => nomatch y)) e7)
        have nPS : Pq ≠ St := fun z => by rw [z, eSt8] at hPq; cases hPq
        have eSt9 := sP _ _ eSt8
        have tS := tups_put (o := .lst (qs.map V.ref ++ [V.ref Pq])) eSt9
        -- the carries so far
        obtain ⟨cs2, ek2, pre2, bit2, fo2, hcx⟩ : ∃ cs2 : List (List Int), ts2.map (·.1) = cs2.map kC ∧ (∀ (i : Nat) c, cs'[i]? = some c → cs2[i]? = some c) ∧ (∀ c ∈ cs2, c.length = ds.length ∧ ∀ x ∈ c, Bit x) ∧ FOrd (stp m ds o) cs2 ∧ cs2[ix]? = some sb.2 := by
          obtain ⟨b', hb'⟩ := hix
          rcases hcase with ⟨rfl, rfl⟩ | ⟨rfl, rfl, rfl, _⟩
          · obtain ⟨c, hc, ec⟩ := keys_at ek6 hb'
            exact ⟨cs', ek6, fun _ _ z => z, bit6, fo6, by rw [hc, kC_inj ec]⟩
          · refine ⟨cs' ++ [sb.2], by rw [List.map_append, List.map_append, ek6]; rfl, fun i c z => ?_, fun c hc => ?_, fo6.push (pre _ _ hc0) hs1 fun p' t' a' s' g1 g2 g3 => ?_, ?_⟩
            · rw [List.getElem?_append_left (List.getElem?_eq_some_iff.mp z).1]
              exact z
            · rcases List.mem_append.mp hc with hc | hc
              · exact bit6 c hc
              · rw [List.mem_singleton.mp hc]
                obtain ⟨bs', h1, e⟩ := List.mem_map.mp (List.mem_of_getElem? hs1)
                rw [← e]
                exact ⟨nxt_len c0l.symm, nxt_bits (bts_bits (allB_ok m bs' h1).2 c0b) c0b⟩
            · rcases g1 with g1 | ⟨rfl, g1⟩
              · obtain ⟨c, w1, w2⟩ := wm.each p' _ (List.getElem?_eq_getElem g1)
                have w3 := pre _ _ w1
                rw [g2] at w3
                obtain rfl := Option.some.inj w3
                obtain ⟨e, _, _, j', _, w6⟩ := awGet2 w2 g3
                exact ⟨j', pre _ _ w6⟩
              · have w3 := pre _ _ hc0
                rw [g2] at w3
                obtain rfl := Option.some.inj w3
                obtain ⟨e, _, _, j', _, w6⟩ := awGet2 hrm (show (List.take j (stp m ds o a'))[t']? = some s' by rw [List.getElem?_take_of_lt g1]; exact g3)
                exact ⟨j', w6⟩
            · rw [l6, List.getElem?_append_right (Nat.le_refl _), Nat.sub_self]
              rfl
        refine ⟨St, _, _, rfl, rfl, eSt9, ?_, _, _, _, cs2, ts2, wy2, qs ++ [Pq], row ++ [(sb.1, ((ix : Nat) : Int))], rfl, ?_, ek2, fun i c z => pre2 i c (pre i c z), bit2, fo2, ?_, ?_, ?_, ?_⟩
        · rw [List.length_map]
          exact small1000 (by omega)
        · refine (hw8.same sP).stay tS fun c u hc e => ?_
          rw [upd_ne ?_]
          · exact e
          · rcases hc with rfl | rfl | rfl | rfl
            · exact nSWk.symm
            · exact nSM.symm
            · exact nSN.symm
            · exact nSW.symm
        · rw [upd_same, List.map_append]
          rfl
        · exact awSnoc (F := fun (q : Addr) (e : Int × Int) => (upd (upd H8 Pq (.tup [.int sb.1, .int ((ix : Nat) : Int)])) St (.lst (qs.map V.ref ++ [V.ref Pq]))) q = some (.tup [.int e.1, .int e.2])) (tS _ _ upd_same) (prat_stay tS (prat_stay s8t hpr))
        · rw [List.take_add_one, hs1]
          exact awSnoc (F := fun (e : Int × Int) (s : Int × List Int) => e.1 = s.1 ∧ ∃ j : Nat, e.2 = (j : Int) ∧ cs2[j]? = some s.2) ⟨rfl, ix, rfl, hcx⟩ (awMap (fun e s z => ⟨z.1, z.2.elim fun i y => ⟨i, y.1, pre2 i _ y.2⟩⟩) hrm)
        · intro b u n1 n2 n3 n4 e
          rw [upd_ne n4]
          exact sP _ _ (kp8 b u n1 n2 n3 (sU _ _ (st b u n1 n2 n3 n4 e)))
      · obtain ⟨y7, y8, y9, cs', ts', wy', qs, row, rfl, hw6, ek6, pre, bit6, fo6, eSt6, hpr, hrm, st⟩ := hp
        rw [← stp_len m ds o c0, List.take_length] at hrm
        have eMc6 := st _ _ nMM nMN nMW nSMc.symm (s45 _ _ eMc)
        have tup5 : TupsStay H5 H6 := fun b xs e => st b _ (ne_of e (s45 _ _ hw4.met) (fun y => nomatch y)) (ne_of e (s45 _ _ hw4.num.ob) (fun y => nomatch y)) (by obtain ⟨ws, e2, _⟩ := hw4.ways; exact ne_of e (s45 _ _ e2) (fun y => nomatch y)) (ne_of e (s5 _ _ upd_same) (fun y => nomatch y)) e
        have t46 : TupsStay H4 H6 := (Same.tups s45).trans tup5
        have tM := tups_put (o := .lst (ls.map V.ref ++ [V.ref St])) eMc6
        refine ⟨.ref Mc, rfl, .inl ⟨rfl, _, .inl (.inl eMc6)⟩, .ref St, rfl, Mc, _, _, rfl, rfl, eMc6, ?_, _, ?_, _, _, _, _, _, _, cs', ts', wy', ls ++ [St], mac ++ [row], rfl, ?_, ek6, ⟨keys_nd hw6.nd ek6, pre _ _ wm.first, bit6, fun i r hi => ?_, fo6⟩, ?_, ?_, ?_, fun l hl => ?_, ?_, tat_stay tM (tat_stay t46 hf4), ?_, rfl⟩
        · rw [List.length_map]
          exact small1000 (by omega)
        · rw [List.length_append]
          show 257 - (mac.length + 1) < 257 - mac.length
          omega
        · refine hw6.stay tM fun c u hc e => ?_
          rw [upd_ne ?_]
          · exact e
          · obtain ⟨dx6, ob6⟩ := hw6.ob
            rcases hc with rfl | rfl | rfl | rfl
            · exact ne_of ob6 eMc6 (fun y => nomatch y)
            · exact nMM.symm
            · exact nMN.symm
            · exact nMW.symm
        · by_cases hil : i < mac.length
          · rw [List.getElem?_append_left hil] at hi
            obtain ⟨c, h1, h2⟩ := wm.each i r hi
            exact ⟨c, pre _ _ h1, awMap (fun e s z => ⟨z.1, z.2.elim fun i y => ⟨i, y.1, pre i _ y.2⟩⟩) h2⟩
          · rw [List.getElem?_append_right (by omega)] at hi
            have hi2 := (List.getElem?_eq_some_iff.mp hi).1
            simp only [List.length_cons, List.length_nil] at hi2
            have ei : i = mac.length := by omega
            subst ei
            rw [Nat.sub_self] at hi
            obtain rfl := Option.some.inj hi
            exact ⟨c0, pre _ _ hc0, hrm⟩
        · rw [List.length_append]
          have h1 := (List.getElem?_eq_some_iff.mp (pre _ _ hc0)).1
          show mac.length + 1 ≤ cs'.length
          omega
        · rw [upd_same, List.map_append]
          rfl
        · refine awSnoc (F := RowL (upd H6 Mc (.lst (ls.map V.ref ++ [V.ref St])))) ⟨qs, ?_, prat_stay tM hpr⟩ (macl_stay (t46.trans tM) (fun l hl xs e => ?_) hmac)
          · rw [upd_ne nSMc]
            exact eSt6
          · obtain ⟨l1, l2, l3, l4⟩ := lsne l hl
            rw [upd_ne l4]
            exact st _ _ l1 l2 l3 (nSls l hl) (s45 _ _ e)
        · rcases List.mem_append.mp hl with hl | hl
          · exact lsne l hl
          · rw [List.mem_singleton.mp hl]
            exact ⟨nSM, nSN, nSW, nSMc⟩
        · rw [upd_ne nMCh.symm]
          exact st _ _ nChM nChN nChW nSCh.symm eCh5
        · intro b u e
          have e5 := s45 _ _ (s4 b u e)
          rw [upd_ne (ne_of_none e hMc0)]
          exact st b u (ne_of_none e hM0) (ne_of_none e hN0) (ne_of_none e hW0) (ne_of_none e hSt0) e5
    · have nlt : ¬ mac.length < cs.length := fun z => e (by
        apply decide_eq_true
        rw [List.length_map, List.length_map]
        omega)
      exact ⟨.ref Mc, rfl, q H4 Mc ls cs mac s4 hMc0 eMc hmac wm (by omega)⟩
/-! ### numbered -/
abbrev zs (ns : List Nat) : List Int := ns.map Int.ofNat
structure NumOf (ks : List NestedKey) (ns : List Nat) : Prop where
  len : ns.length = ks.length
  inj : ∀ (i j a : Nat) x y, ns[i]? = some a → ns[j]? = some a → ks[i]? = some x → ks[j]? = some y → x = y
  rg : ∀ i v : Nat, ns[i]? = some (v + 1) → ∃ j, j < i ∧ ns[j]? = some v
  same : ∀ (i j : Nat), ks[i]? = ks[j]? → ns[i]? = ns[j]?
structure FI (ks : List NestedKey) (i : Nat) (us : List NestedKey) : Prop where
  nd : us.Nodup
  all : ∀ (j : Nat) k, j < i → ks[j]? = some k → k ∈ us
  src : ∀ k ∈ us, ∃ j, j < i ∧ ks[j]? = some k
  rg : ∀ (v j : Nat) k, us[v + 1]? = some k → ks[j]? = some k → ∃ j' k', j' < j ∧ us[v]? = some k' ∧ ks[j']? = some k'
  len : us.length ≤ i
theorem FI.zero {ks : List NestedKey} : FI ks 0 [] := ⟨.nil, (fun j k h => absurd h (Nat.not_lt_zero _)), (fun _ z => nomatch z), (fun v j k h => by simp at h), Nat.le_refl _⟩
theorem FI.old {ks us : List NestedKey} {i : Nat} {k : NestedKey} (h : FI ks i us) (hk : ks[i]? = some k) (hm : k ∈ us) : FI ks (i + 1) us := by
  refine ⟨h.nd, fun j k' hj e => ?_, fun k' hk' => ?_, h.rg, Nat.le_succ_of_le h.len⟩
  · by_cases hji : j = i
    · rw [hji, hk] at e
      exact Option.some.inj e ▸ hm
    · exact h.all j k' (by omega) e
  · obtain ⟨j, h1, h2⟩ := h.src k' hk'
    exact ⟨j, by omega, h2⟩
theorem FI.new {ks us : List NestedKey} {i : Nat} {k : NestedKey} (h : FI ks i us) (hk : ks[i]? = some k) (hm : k ∉ us) : FI ks (i + 1) (us ++ [k]) := by
  refine ⟨?_, fun j k' hj e => ?_, fun k' hk' => ?_, fun v j k' hv e => ?_, by rw [List.length_append]; exact Nat.succ_le_succ h.len⟩
  · rw [List.nodup_append]
    refine ⟨h.nd, by simp, fun a ha b hb => ?_⟩
    rw [List.mem_singleton.mp hb]
    exact fun z => hm (z ▸ ha)
  · by_cases hji : j = i
    · rw [hji, hk] at e
      rw [← Option.some.inj e]
      simp
    · exact List.mem_append_left _ (h.all j k' (by omega) e)
  · rcases List.mem_append.mp hk' with h1 | h1
    · obtain ⟨j, h2, h3⟩ := h.src k' h1
      exact ⟨j, by omega, h3⟩
    · rw [List.mem_singleton.mp h1]
      exact ⟨i, by omega, hk⟩
  · by_cases hl : v + 1 < us.length
    · rw [List.getElem?_append_left hl] at hv
      obtain ⟨j', k2, h1, h2, h3⟩ := h.rg v j k' hv e
      exact ⟨j', k2, h1, by rw [List.getElem?_append_left (by omega)]; exact h2, h3⟩
    · rw [List.getElem?_append_right (by omega)] at hv
      have hv0 : v + 1 - us.length = 0 := by
        have := (List.getElem?_eq_some_iff.mp hv).1
        simp at this
        exact this
      rw [hv0] at hv
      have hkk : k = k' := by simpa using hv
      subst hkk
      have hlv : v < us.length := by omega
      obtain ⟨j', h1, h2⟩ := h.src us[v] (List.getElem_mem hlv)
      refine ⟨j', us[v], ?_, by rw [List.getElem?_append_left hlv, List.getElem?_eq_getElem hlv], h2⟩
      by_cases hji : j < i
      · exact absurd (h.all j k hji e) hm
      · omega
def idxN (us : List NestedKey) (k : NestedKey) : Nat := us.findIdx fun u => decide (u = k)
theorem idxN_at {us : List NestedKey} {k : NestedKey} (h : k ∈ us) : us[idxN us k]? = some k := by
  have hl : idxN us k < us.length := List.findIdx_lt_length_of_exists ⟨k, h, by simp⟩
  rw [List.getElem?_eq_getElem hl]
  exact congrArg some (of_decide_eq_true (List.findIdx_getElem (w := hl)))
theorem FI.done {ks us : List NestedKey} (h : FI ks ks.length us) : NumOf ks (ks.map (idxN us)) := by
  have key : ∀ (i a : Nat), (ks.map (idxN us))[i]? = some a → ∃ x, ks[i]? = some x ∧ us[a]? = some x := fun i a e => by
    rw [List.getElem?_map] at e
    cases hx : ks[i]? with
    | none => rw [hx] at e; cases e
    | some x =>
      rw [hx] at e
      have e' : idxN us x = a := Option.some.inj e
      exact ⟨x, rfl, e' ▸ idxN_at (h.all i x (List.getElem?_eq_some_iff.mp hx).1 hx)⟩
  refine ⟨List.length_map _, fun i j a x y h1 h2 h3 h4 => ?_, fun i v e => ?_, fun i j e => by rw [List.getElem?_map, List.getElem?_map, e]⟩
  · obtain ⟨x', e1, e2⟩ := key i a h1
    obtain ⟨y', e3, e4⟩ := key j a h2
    rw [h3] at e1
    rw [h4] at e3
    rw [Option.some.inj e1, Option.some.inj e3]
    exact Option.some.inj (e2.symm.trans e4)
  · obtain ⟨x, e1, e2⟩ := key i _ e
    obtain ⟨j', k', h1, h2, h3⟩ := h.rg v i x e2 e1
    refine ⟨j', h1, ?_⟩
    rw [List.getElem?_map, h3]
    have hk' := h.all j' k' (List.getElem?_eq_some_iff.mp h3).1 h3
    have := idxN_at hk'
    exact congrArg some ((List.getElem?_inj (List.getElem?_eq_some_iff.mp this).1 h.nd).mp (this.trans h2.symm))
theorem NumOf.le {ks : List NestedKey} {ns : List Nat} (h : NumOf ks ns) : ∀ (v i : Nat), ns[i]? = some v → v ≤ i
  | 0, _, _ => Nat.zero_le _
  | v + 1, i, e => by
    obtain ⟨j, h1, h2⟩ := h.rg i v e
    have := h.le v j h2
    omega
abbrev KeysAt (H : Hp) : List Addr → List NestedKey → Prop := Paired fun b k => KeyN H (.ref b) k
theorem keysat_stay {H H' : Hp} (t : TupsStay H H') {bs : List Addr} {ks : List NestedKey} (h : KeysAt H bs ks) : KeysAt H' bs ks := awMap (fun b k z => keyn_stay t z) h
def spNu : Sp := fun vs H Q _ => ∃ (L : Addr) (bs : List Addr) (ks : List NestedKey), vs = [.ref L] ∧ H L = some (.lst (bs.map V.ref)) ∧ KeysAt H bs ks ∧ bs.length ≤ 256 ∧
  ∀ H' p ns, Same H H' → H p = none → H' p = some (.lst ((zs ns).map V.int)) → NumOf ks ns → Q (.ref p) H'
theorem ok_nu {f : Addr} {fd : FuncData} {k : Nat} (F : Fun K "numbered" "numbered" s_numbered f fd) (mn : mg "len" = none) : FnOk P w K mg base CX0 (k + 1) f fd ["looks"] spNu := by
  refine F.ok sc_numbered (fun vs H Q E h => ?_) (fun cdv A outer s H vs Q E hr h => ?_)
  · obtain ⟨L, bs, ks, rfl, _⟩ := h
    rfl
  · obtain ⟨L, bs, ks, rfl, eL, hk, hl, q⟩ := h
    refine ⟨_, pss_cons (ps_set (i := 1) sc_numbered.nd rfl (.inr rfl) (pe_ndnew (P := P) (w := w) rfl rfl))
      (pss_cons (ps_for PassesOwn.never rfl (pi_list (pv 0)) (pg_name (i := 2) sc_numbered.nd rfl (.inl rfl))
        (pss_one (ps_expr (pe_nsetd (P := P) (w := w) rfl rfl hr.units (pv 1) (pa_cons (pv 2) (pa_cons (pe_callB (call_lenN (P := P) (w := w) rfl rfl) (by rfl) mn PySem.boot_len (pa_cons (pv 1) pa_nil)) pa_nil))))))
      (pss_one (ps_ret (pe_lc (own := [("look", 2)]) (g := gName 2) (by rfl) sc_numbered.nd (pi_list (pv 0)) (blkOk_by (own := [("look", 2)]) (N := N_numbered) (sc := defScope s_numbered) (by decide +kernel))
        (fun _ _ _ _ _ => pg_name (i := 2) sc_numbered.nd rfl (Or.inl rfl)) (fun _ _ _ _ _ => pts_nil) (fun _ _ _ _ _ => pe_ndget (P := P) (w := w) rfl rfl hr.units (pv 1) (pv 2) (fun _ _ => rfl)))))), ?_⟩
    intro N hN
    have sN := same_new (o := NDO P w N []) hN
    have nLN : L ≠ N := ne_of_none eL hN
    have kl := awLen hk
    refine ⟨.ref L, rfl, L, rfl, ⟨_, .inl (.inl (sN _ _ eL))⟩, for_list (K := K) (a := L) (xs := bs.map V.ref) (fun i σ H3 => ∃ y2 ts, σ = [some (.ref L), some (.ref N), y2] ∧ ND P w H3 N (numE ts) ∧ FI ks i (ts.map (·.1)) ∧ Same H H3)
      ⟨none, [], rfl, nd_nil, FI.zero, sN⟩ (fun i σ H3 _ hp => ?_) (fun i x σ H3 hx hp => ?_) (fun σ H3 hp => ?_)⟩
    · obtain ⟨_, _, _, _, _, s3⟩ := hp
      exact .inl (.inl (s3 _ _ eL))
    · obtain ⟨y2, ts, rfl, nd3, fi, s3⟩ := hp
      have hi : i < bs.length := by
        have := (List.getElem?_eq_some_iff.mp hx).1
        rwa [List.length_map] at this
      have hx' : x = .ref bs[i] := by
        rw [List.getElem?_map, List.getElem?_eq_getElem hi] at hx
        exact (Option.some.inj hx).symm
      subst hx'
      obtain ⟨key, hk1, hk2⟩ := awGet hk (List.getElem?_eq_getElem hi)
      have hk3 := keyn_stay (Same.tups s3) hk2
      have tl := fi.len
      rw [List.length_map] at tl
      refine ⟨.ref N, rfl, ⟨N, _, rfl, nd3⟩, .ref bs[i], rfl, .ref N, rfl, N, _, rfl, nd3, N, _, key, bs[i], _, rfl, rfl, nd3, hk3, ?_, fun y hy => ?_, fun hn => ?_⟩
      · rw [numE_len]
        exact small1000 (by omega)
      · obtain ⟨b, hb⟩ := getN_some hy
        obtain ⟨j, t, ht, he⟩ := numE_mem hb
        have : key ∈ ts.map (·.1) := List.mem_map.mpr ⟨t, List.mem_of_getElem? ht, (Prod.mk.inj he).1.symm⟩
        exact ⟨some (.ref bs[i]), ts, rfl, nd3, fi.old hk1 this, s3⟩
      · have nm : key ∉ ts.map (·.1) := fun z => by
          obtain ⟨t, h1, h2⟩ := List.mem_map.mp z
          obtain ⟨j, hj⟩ := List.mem_iff_getElem?.mp h1
          have := numE_some (k := key) (b := t.2) fi.nd (by rw [hj, ← h2])
          rw [hn] at this
          cases this
        refine ⟨some (.ref bs[i]), ts ++ [(key, bs[i])], rfl, ?_, ?_, fun b u e => ?_⟩
        · rw [numE_snoc, numE_len]
          exact nd_put nd3 hk3
        · rw [List.map_append]
          exact fi.new hk1 nm
        · rw [upd_ne (ne_of_none e hN)]
          exact s3 b u e
    · obtain ⟨y2, ts, rfl, nd3, fi, s3⟩ := hp
      rw [List.length_map, kl] at fi
      refine ⟨.ref L, rfl, L, rfl, ⟨_, .inl (.inl (s3 _ _ eL))⟩, fun D hD => ?_⟩
      refine lc_it (walk_list (K := K) (a := L) (xs := bs.map V.ref)) (fun i H4 => H4 D = some (.lst ((zs ((ks.map (idxN (ts.map (·.1)))).take i)).map V.int)) ∧ Same H3 H4) ⟨upd_same, same_new hD⟩ (fun i H4 _ hp => .inl (.inl (hp.2 _ _ (s3 _ _ eL)))) (fun i x H4 H5 hi hp hy => ?_) (fun H4 hp => ?_)
      · obtain ⟨eD, s4⟩ := hp
        obtain ⟨rfl, hx⟩ := hy
        have hi2 : i < bs.length := by rwa [List.length_map] at hi
        have hx' : x = .ref bs[i] := by
          rw [List.getElem?_map, List.getElem?_eq_getElem hi2] at hx
          exact (Option.some.inj hx).symm
        subst hx'
        obtain ⟨key, hk1, hk2⟩ := awGet hk (List.getElem?_eq_getElem hi2)
        have hm := fi.all i key (by omega) hk1
        have hat := idxN_at hm
        obtain ⟨t, ht1, ht2⟩ : ∃ t, ts[idxN (ts.map (·.1)) key]? = some t ∧ t.1 = key := by
          rw [List.getElem?_map] at hat
          cases ht : ts[idxN (ts.map (·.1)) key]? with
          | none => rw [ht] at hat; cases hat
          | some t => rw [ht] at hat; exact ⟨t, rfl, Option.some.inj hat⟩
        have hg := numE_some (k := key) (b := t.2) fi.nd (by rw [ht1, ← ht2])
        refine ⟨rfl, .ref N, rfl, .ref bs[i], rfl, N, _, key, _, rfl, nd_same nd3 s4, keyn_stay (Same.tups (s3.trans s4)) hk2, hg, _, eD, ?_, ?_, fun b u e => ?_⟩
        · rw [List.length_map, List.length_map, List.length_take]
          exact small1000 (by omega)
        · rw [upd_same, List.take_add_one, List.getElem?_map, hk1]
          simp [zs]
        · rw [upd_ne (ne_of_none e hD)]
          exact s4 b u e
      · obtain ⟨eD, s4⟩ := hp
        rw [List.length_map, kl, ← List.length_map (f := idxN (ts.map (·.1))), List.take_length] at eD
        exact q H4 D _ (s3.trans s4) (s3.free hD) eD fi.done
/-! ### kinds_of_states -/
abbrev RG (ns : List Nat) : Prop := ∀ i v : Nat, ns[i]? = some (v + 1) → ∃ j, j < i ∧ ns[j]? = some v
abbrev Finer (ns ps : List Nat) : Prop := ∀ i j a x y : Nat, ns[i]? = some a → ns[j]? = some a → ps[i]? = some x → ps[j]? = some y → x = y
theorem rg_down {ps : List Nat} (rg : RG ps) : ∀ d v i : Nat, ps[i]? = some (v + d) → ∃ j : Nat, ps[j]? = some v
  | 0, v, i, h => ⟨i, h⟩
  | d + 1, v, i, h => by
    obtain ⟨j, _, h2⟩ := rg i (v + d) h
    exact rg_down rg d v j h2
theorem coarse {ps ns : List Nat} {M m : Nat} (hl : ps.length = ns.length) (rgp : RG ps) (hM : M ∈ ps) (hm : ∀ x ∈ ns, x ≤ m) (hle : m ≤ M) (ref : Finer ns ps) : Finer ps ns := by
  have at_ : ∀ v, v ≤ M → ∃ i : Nat, ps[i]? = some v := fun v hv => by
    obtain ⟨i, hi⟩ := List.mem_iff_getElem?.mp hM
    exact rg_down rgp (M - v) v i (by rw [hi]; congr 1; omega)
  let r : Nat → Nat := fun v => ps.findIdx fun u => decide (u = v)
  have hr : ∀ v, v ≤ M → ps[r v]? = some v := fun v hv => by
    obtain ⟨i, hi⟩ := at_ v hv
    have hlt : r v < ps.length := List.findIdx_lt_length_of_exists ⟨v, List.mem_of_getElem? hi, by simp⟩
    rw [List.getElem?_eq_getElem hlt]
    exact congrArg some (of_decide_eq_true (List.findIdx_getElem (w := hlt)))
  have hn : ∀ v, v ≤ M → ∃ a, ns[r v]? = some a ∧ ns.getD (r v) 0 = a := fun v hv => by
    have hlt : r v < ns.length := by
      rw [← hl]
      exact (List.getElem?_eq_some_iff.mp (hr v hv)).1
    exact ⟨ns[r v], List.getElem?_eq_getElem hlt, by simp [List.getD, List.getElem?_eq_getElem hlt]⟩
  have nd : ((List.range (M + 1)).map fun v => ns.getD (r v) 0).Nodup := by
    refine List.pairwise_map.mpr (List.Pairwise.imp_of_mem (fun {a b} ha hb hab z => hab ?_) List.nodup_range)
    rw [List.mem_range] at ha hb
    obtain ⟨x, h1, h2⟩ := hn a (by omega)
    obtain ⟨y, h3, h4⟩ := hn b (by omega)
    rw [h2, h4] at z
    subst z
    exact ref _ _ x a b h1 h3 (hr a (by omega)) (hr b (by omega))
  have cov : ∀ x, x ∈ ns → ∃ v, v ≤ M ∧ ns[r v]? = some x := fun x hx => by
    by_cases h : x ∈ (List.range (M + 1)).map fun v => ns.getD (r v) 0
    · obtain ⟨v, h1, h2⟩ := List.mem_map.mp h
      rw [List.mem_range] at h1
      obtain ⟨a, h3, h4⟩ := hn v (by omega)
      exact ⟨v, by omega, by rw [h3, ← h4, ← h2]⟩
    · exfalso
      have := pigeon (x :: (List.range (M + 1)).map fun v => ns.getD (r v) 0) (List.range (M + 1)) (List.nodup_cons.mpr ⟨h, nd⟩) fun y hy => by
        rw [List.mem_range]
        rcases List.mem_cons.mp hy with rfl | hy
        · have := hm _ hx
          omega
        · obtain ⟨v, h1, h2⟩ := List.mem_map.mp hy
          rw [List.mem_range] at h1
          obtain ⟨a, h3, h4⟩ := hn v (by omega)
          have := hm a (List.mem_of_getElem? h3)
          have h2' : ns.getD (r v) 0 = y := h2
          omega
      rw [List.length_cons, List.length_map, List.length_range] at this
      omega
  intro i j a x y h1 h2 h3 h4
  obtain ⟨v, v1, v2⟩ := cov x (List.mem_of_getElem? h3)
  obtain ⟨u, u1, u2⟩ := cov y (List.mem_of_getElem? h4)
  have e1 := ref i (r v) x a v h3 v2 h1 (hr v v1)
  have e2 := ref j (r u) y a u h4 u2 h2 (hr u u1)
  have : v = u := by omega
  subst this
  rw [v2] at u2
  exact Option.some.inj u2
abbrev beh (ns : List Nat) (row : MRow) : List Int := row.map fun e => ((ns.getD e.2.toNat 0 : Nat) : Int)
structure MacOk (mac : List MRow) : Prop where
  pos : 0 < mac.length
  few : mac.length ≤ 256
  rows : ∀ row ∈ mac, row.length ≤ 8
  ends : ∀ row ∈ mac, ∀ e ∈ row, ∃ j : Nat, e.2 = (j : Int) ∧ j < mac.length
/-- states that tell alike for ever -/
def Alk (mac : List MRow) (R : Nat → Nat → Prop) : Prop := ∀ i j, R i j → ∃ r s, mac[i]? = some r ∧ mac[j]? = some s ∧ Paired (fun (e e' : Int × Int) => e.1 = e'.1 ∧ R e.2.toNat e'.2.toNat) r s
theorem alk_bits {R : Nat → Nat → Prop} : ∀ {r s : MRow}, Paired (fun (e e' : Int × Int) => e.1 = e'.1 ∧ R e.2.toNat e'.2.toNat) r s → r.map (·.1) = s.map (·.1)
  | _, _, .nil => rfl
  | _, _, .cons h1 h2 => by rw [List.map_cons, List.map_cons, h1.1, alk_bits h2]
theorem alk_beh {ns : List Nat} {R : Nat → Nat → Prop} (h : ∀ i j, R i j → ns[i]? = ns[j]?) : ∀ {r s : MRow}, Paired (fun (e e' : Int × Int) => e.1 = e'.1 ∧ R e.2.toNat e'.2.toNat) r s → beh ns r = beh ns s
  | _, _, .nil => rfl
  | _, _, .cons h1 h2 => by
    have e := alk_beh h h2
    unfold beh at e ⊢
    rw [List.map_cons, List.map_cons, e, List.getD_eq_getElem?_getD, List.getD_eq_getElem?_getD, h _ _ h1.2]
structure KOk (mac : List MRow) (ns : List Nat) : Prop where
  len : ns.length = mac.length
  rg : RG ns
  bits : ∀ (i j a : Nat) r s, ns[i]? = some a → ns[j]? = some a → mac[i]? = some r → mac[j]? = some s → r.map (·.1) = s.map (·.1)
  next : ∀ (i j a : Nat) r s, ns[i]? = some a → ns[j]? = some a → mac[i]? = some r → mac[j]? = some s → beh ns r = beh ns s
  crs : ∀ R, Alk mac R → ∀ i j, R i j → ns[i]? = ns[j]?
structure KInv (mac : List MRow) (ns : List Nat) (many : Nat) : Prop where
  len : ns.length = mac.length
  rg : RG ns
  bits : ∀ (i j a : Nat) r s, ns[i]? = some a → ns[j]? = some a → mac[i]? = some r → mac[j]? = some s → r.map (·.1) = s.map (·.1)
  prev : many = 0 ∨ ∃ (ps : List Nat) (M : Nat), ps.length = mac.length ∧ RG ps ∧ M ∈ ps ∧ many = M + 1 ∧ Finer ns ps ∧ ∀ (i j a : Nat) r s, ns[i]? = some a → ns[j]? = some a → mac[i]? = some r → mac[j]? = some s → beh ps r = beh ps s
  crs : ∀ R, Alk mac R → ∀ i j, R i j → ns[i]? = ns[j]?
theorem rg_le {ns : List Nat} (rg : RG ns) : ∀ (v i : Nat), ns[i]? = some v → v ≤ i
  | 0, _, _ => Nat.zero_le _
  | v + 1, i, e => by
    obtain ⟨j, h1, h2⟩ := rg i v e
    have := rg_le rg v j h2
    omega
theorem KInv.done {mac : List MRow} {ns : List Nat} {many m : Nat} (h : KInv mac ns many) (ok : MacOk mac) (hm : ∀ x ∈ ns, x ≤ m) (hle : m + 1 ≤ many) : KOk mac ns := by
  refine ⟨h.len, h.rg, h.bits, fun i j a r s h1 h2 h3 h4 => ?_, h.crs⟩
  rcases h.prev with e | ⟨ps, M, lp, rgp, hM, rfl, fin, nx⟩
  · omega
  have co := coarse (lp.trans h.len.symm) rgp hM hm (by omega) fin
  have e1 := nx i j a r s h1 h2 h3 h4
  apply List.ext_getElem?
  intro t
  have lr := congrArg List.length (h.bits i j a r s h1 h2 h3 h4)
  rw [List.length_map, List.length_map] at lr
  have e2 := congrArg (fun l : List Int => l[t]?) e1
  rw [List.getElem?_map, List.getElem?_map]
  by_cases ht : t < r.length
  · have ht2 : t < s.length := by omega
    have e3 : (beh ps r)[t]? = (beh ps s)[t]? := e2
    rw [List.getElem?_map, List.getElem?_map, List.getElem?_eq_getElem ht, List.getElem?_eq_getElem ht2] at e3
    rw [List.getElem?_eq_getElem ht, List.getElem?_eq_getElem ht2]
    obtain ⟨x, hx, lx⟩ := ok.ends r (List.mem_of_getElem? h3) r[t] (List.getElem_mem ht)
    obtain ⟨y, hy, ly⟩ := ok.ends s (List.mem_of_getElem? h4) s[t] (List.getElem_mem ht2)
    have e4 : ((ps.getD r[t].2.toNat 0 : Nat) : Int) = ((ps.getD s[t].2.toNat 0 : Nat) : Int) := Option.some.inj e3
    show some ((ns.getD r[t].2.toNat 0 : Nat) : Int) = some ((ns.getD s[t].2.toNat 0 : Nat) : Int)
    rw [hx, hy, Int.toNat_natCast, Int.toNat_natCast] at e4 ⊢
    have hl := h.len
    have px : ps[x]? = some ps[x] := List.getElem?_eq_getElem (by omega)
    have py : ps[y]? = some ps[y] := List.getElem?_eq_getElem (by omega)
    have nx : ns[x]? = some ns[x] := List.getElem?_eq_getElem (by omega)
    have ny : ns[y]? = some ns[y] := List.getElem?_eq_getElem (by omega)
    rw [List.getD_eq_getElem?_getD, List.getD_eq_getElem?_getD, px, py] at e4
    rw [List.getD_eq_getElem?_getD, List.getD_eq_getElem?_getD, nx, ny]
    have e6 : ((ps[x] : Nat) : Int) = ((ps[y] : Nat) : Int) := by simpa using e4
    have e5 : ps[x] = ps[y] := by omega
    have := co x y _ _ _ px (e5 ▸ py) nx ny
    simp [this]
  · rw [List.getElem?_eq_none (by omega), List.getElem?_eq_none (by omega)]
theorem KInv.first {mac : List MRow} {ns : List Nat} (h : NumOf (mac.map fun row => kC (row.map (·.1))) ns) : KInv mac ns 0 := by
  refine ⟨by rw [h.len, List.length_map], h.rg, fun i j a r s h1 h2 h3 h4 => ?_, .inl rfl, fun R hR i j hij => ?_⟩
  · exact kC_inj (h.inj i j a _ _ h1 h2 (by rw [List.getElem?_map, h3]; rfl) (by rw [List.getElem?_map, h4]; rfl))
  · obtain ⟨r, s, h1, h2, h3⟩ := hR i j hij
    exact h.same i j (by rw [List.getElem?_map, List.getElem?_map, h1, h2, Option.map_some, Option.map_some, alk_bits h3])
def kZ (n : Nat) (c : List Int) : NestedKey := .tup [.num (n : Int), kC c]
theorem kZ_inj {n n' : Nat} {c c' : List Int} (h : kZ n c = kZ n' c') : n = n' ∧ c = c' := by
  unfold kZ at h
  have h1 := NestedKey.tup.inj h
  rw [List.cons.injEq, List.cons.injEq] at h1
  have h2 := NestedKey.num.inj h1.1
  exact ⟨by omega, kC_inj h1.2.1⟩
theorem kZ_depth (n : Nat) (c : List Int) : (kZ n c).depth ≤ 8 := by
  unfold kZ kC
  simp [NestedKey.depth, NestedKey.depthAll, nums_depth c]
theorem keyZ {H : Hp} {t b : Addr} {n : Nat} {c : List Int} (h1 : H t = some (.tup [.int (n : Int), .ref b])) (h2 : H b = some (.tup (c.map V.int))) : KeyN H (.ref t) (kZ n c) :=
  ⟨.tup h1 (.cons (.num _) (.cons (.tup h2 (nks_ints H c)) .nil)), kZ_depth n c, t, rfl⟩
theorem KInv.step {mac : List MRow} {ns ns' : List Nat} {many m : Nat} (h : KInv mac ns many) (hm : m ∈ ns) (hn : NumOf ((ns.zip mac).map fun e => kZ e.1 (beh ns e.2)) ns') : KInv mac ns' (m + 1) := by
  have zl : (ns.zip mac).length = mac.length := by rw [List.length_zip, h.len, Nat.min_self]
  have key : ∀ (i j a x y : Nat) r s, ns'[i]? = some a → ns'[j]? = some a → ns[i]? = some x → ns[j]? = some y → mac[i]? = some r → mac[j]? = some s → x = y ∧ beh ns r = beh ns s := fun i j a x y r s h1 h2 h3 h4 h5 h6 => by
    have z1 : (ns.zip mac)[i]? = some (x, r) := List.getElem?_zip_eq_some.mpr ⟨h3, h5⟩
    have z2 : (ns.zip mac)[j]? = some (y, s) := List.getElem?_zip_eq_some.mpr ⟨h4, h6⟩
    exact kZ_inj (hn.inj i j a _ _ h1 h2 (by rw [List.getElem?_map, z1]; rfl) (by rw [List.getElem?_map, z2]; rfl))
  have at_ : ∀ (i : Nat) r, mac[i]? = some r → ∃ x : Nat, ns[i]? = some x := fun i r e => by
    have := (List.getElem?_eq_some_iff.mp e).1
    have hl := h.len
    exact ⟨_, List.getElem?_eq_getElem (by omega)⟩
  refine ⟨by rw [hn.len, List.length_map, zl], hn.rg, fun i j a r s h1 h2 h3 h4 => ?_, .inr ⟨ns, m, h.len, h.rg, hm, rfl, fun i j a x y h1 h2 h3 h4 => ?_, fun i j a r s h1 h2 h3 h4 => ?_⟩, fun R hR i j hij => ?_⟩
  · obtain ⟨x, hx⟩ := at_ i r h3
    obtain ⟨y, hy⟩ := at_ j s h4
    obtain ⟨rfl, _⟩ := key i j a x y r s h1 h2 hx hy h3 h4
    exact h.bits i j x r s hx hy h3 h4
  · have l1 := (List.getElem?_eq_some_iff.mp h3).1
    have l2 := (List.getElem?_eq_some_iff.mp h4).1
    have hl := h.len
    exact (key i j a x y _ _ h1 h2 h3 h4 (List.getElem?_eq_getElem (by omega)) (List.getElem?_eq_getElem (by omega))).1
  · obtain ⟨x, hx⟩ := at_ i r h3
    obtain ⟨y, hy⟩ := at_ j s h4
    exact (key i j a x y r s h1 h2 hx hy h3 h4).2
  · obtain ⟨r, s, h1, h2, h3⟩ := hR i j hij
    obtain ⟨x, hx⟩ := at_ i r h1
    have hy : ns[j]? = some x := (h.crs R hR i j hij).symm.trans hx
    have z1 : (ns.zip mac)[i]? = some (x, r) := List.getElem?_zip_eq_some.mpr ⟨hx, h1⟩
    have z2 : (ns.zip mac)[j]? = some (x, s) := List.getElem?_zip_eq_some.mpr ⟨hy, h2⟩
    exact hn.same i j (by rw [List.getElem?_map, List.getElem?_map, z1, z2, Option.map_some, Option.map_some, alk_beh (h.crs R hR) h3])
def spKi : Sp := fun vs H Q _ => ∃ (p : Addr) (ls : List Addr) (mac : List MRow), vs = [.ref p] ∧ H p = some (.lst (ls.map V.ref)) ∧ MacL H ls mac ∧ MacOk mac ∧
  ∀ H' q ns, Same H H' → H q = none → H' q = some (.lst ((zs ns).map V.int)) → KOk mac ns → Q (.ref q) H'
def KSt (H : Hp) (p : Addr) (mac : List MRow) (n : Nat) (σ : L2.St) (H4 : Hp) : Prop := ∃ y3 y4 y5 y6 Kd ns many, σ = [some (.ref p), some (.ref Kd), some (.int ((many : Nat) : Int)), y3, y4, y5, y6] ∧ H4 Kd = some (.lst ((zs ns).map V.int)) ∧ KInv mac ns many ∧ Same H H4 ∧ H Kd = none ∧ n = 300 - many
theorem mem_zs {ns : List Nat} {m : Int} (h : m ∈ zs ns) : ∃ k : Nat, k ∈ ns ∧ m = (k : Int) := by
  obtain ⟨k, h1, h2⟩ := List.mem_map.mp h
  exact ⟨k, h1, h2.symm⟩
theorem macl_same {H H' : Hp} (s : Same H H') {ls : List Addr} {mac : List MRow} (h : MacL H ls mac) : MacL H' ls mac := macl_stay (Same.tups s) (fun l _ xs e => s _ _ e) h
abbrev TupsAt (H : Hp) : List Addr → List (List Int) → Prop := Paired fun b c => H b = some (.tup (c.map V.int))
abbrev rTupOf (K : PySem.W.Frag) : List V → Hp → VK → Prop := fun xs H Q => ∃ p ys, xs = [.ref p] ∧ ((SqL K H p ys ∧ ∀ l, H l = none → Q (.ref l) (upd H l (.tup ys))) ∨ (SqT K H p ys ∧ Q (.ref p) H))
abbrev scKa : Scope := ⟨.function, [(".0", .local), ("state", .local), ("tuple", .globalImplicit)], false, false, []⟩
abbrev scKb : Scope := ⟨.function, [(".0", .local), ("state", .local), ("tuple", .globalImplicit), ("kinds", .cell)], false, false, []⟩
abbrev scKc : Scope := ⟨.function, [(".0", .local), ("bit", .local), ("after", .local), ("kinds", .free)], false, false, []⟩
theorem ok_ki {f fN : Addr} {fd fdN : FuncData} {k : Nat} (F : Fun K "kinds_of_states" "kinds_of_states" s_kinds_of_states f fd)
    (GN : FnOk P w K mg base CX0 (k + 1) fN fdN ["looks"] spNu) (kN : PySem.W.keepIn K (.ref fN) = true) (bN : Binds K fdN ["looks"] []) (gN : mg "numbered" = some (.ref fN))
    (mx : mg "max" = none) (mt : mg "tuple" = none) (ml : mg "list" = none) (mz : mg "zip" = none) : FnOk P w K mg base CX0 (k + 2) f fd ["machine"] spKi := by
  refine F.ok sc_kinds_of_states (fun vs H Q E h => ?_) (fun cdv A outer s H vs Q E hr h => ?_)
  · obtain ⟨p, ls, mac, rfl, _⟩ := h
    rfl
  · obtain ⟨p, ls, mac, rfl, ep, hmac, ok, q⟩ := h
    refine ⟨_, pss_cons (ps_set (i := 1) sc_kinds_of_states.nd rfl (.inr rfl) (pe_call GN hr (by rfl) gN kN bN .nil pass0 (pa_cons
        (pe_lc (own := [("state", 6)]) (g := gName 6) (by rfl) sc_kinds_of_states.nd (pi_list (pv 0)) (blkOk_by (own := [("state", 6)]) (N := N_kinds_of_states) (sc := defScope s_kinds_of_states) (by decide +kernel))
          (fun _ _ _ _ _ => pg_name (i := 6) sc_kinds_of_states.nd rfl (Or.inl rfl)) (fun _ _ _ _ _ => pts_nil)
          (fun _ _ _ _ _ => pe_callTy (T := "tuple") (r := rTupOf K) call_tuple_of (by rfl) mt (by decide +kernel) (pa_cons
            (pe_lc (wi := iList K (tVar 6)) (own := [("bit", 4), ("after", 5)]) (g := gTup K 2 (gCons (gName 4) (gCons (gName 5) gNil))) (by rfl) sc_kinds_of_states.nd (pi_list (pv 6)) (blkOk_by (own := [("bit", 4), ("after", 5)]) (N := N_kinds_of_states) (sc := scKa) (by decide +kernel))
              (fun _ _ _ _ _ => pg_tup rfl (pgs_cons (pg_name (i := 4) sc_kinds_of_states.nd rfl (.inl rfl)) (pgs_cons (pg_name (i := 5) sc_kinds_of_states.nd rfl (.inl rfl)) pgs_nil))) (fun _ _ _ _ _ => pts_nil)
              (fun _ _ _ _ _ => pv 4)) pa_nil))) pa_nil)))
      (pss_cons (ps_set (i := 2) sc_kinds_of_states.nd rfl (.inl rfl) pe_int)
      (pss_cons (ps_while PassesOwn.never (pt_cmpR op_lt (pv 2) (pe_op op_add (pe_callB (cr_max rfl) (by rfl) mx (by decide +kernel) (pa_cons (pv 1) pa_nil)) pe_int) (nomark _))
        (pss_cons (ps_set (i := 2) sc_kinds_of_states.nd rfl (.inl rfl) (pe_op op_add (pe_callB (cr_max rfl) (by rfl) mx (by decide +kernel) (pa_cons (pv 1) pa_nil)) pe_int))
        (pss_cons (ps_setLc (i := 3) (own := [("state", 6)]) (g := gName 6) (by rfl) sc_kinds_of_states.nd rfl rfl (sw_true rfl rfl rfl (by decide +kernel)) (pi_list (pv 0)) (blkOk_by (own := [("state", 6)]) (N := N_kinds_of_states) (sc := defScope s_kinds_of_states) (by decide +kernel))
          (fun _ _ _ _ _ => pg_name (i := 6) sc_kinds_of_states.nd rfl (Or.inl rfl)) (fun _ _ _ _ _ => pts_nil)
          (fun _ _ _ _ _ => pe_callTy (T := "tuple") (r := rTupOf K) call_tuple_of (by rfl) mt (by decide +kernel) (pa_cons
            (pe_lc (wi := iList K (tVar 6)) (own := [("bit", 4), ("after", 5)]) (g := gTup K 2 (gCons (gName 4) (gCons (gName 5) gNil))) (by rfl) sc_kinds_of_states.nd (pi_list (pv 6)) (by exact blkOk_by (own := [("bit", 4), ("after", 5)]) (N := N_kinds_of_states) (sc := scKb) (scope := scKc) (by decide +kernel))
              (fun _ _ _ _ _ => pg_tup rfl (pgs_cons (pg_name (i := 4) sc_kinds_of_states.nd rfl (.inl rfl)) (pgs_cons (pg_name (i := 5) sc_kinds_of_states.nd rfl (.inl rfl)) pgs_nil))) (fun _ _ _ _ _ => pts_nil)
              (fun _ _ _ _ _ => pe_ix (r := rIxL K) ix_list (pv 1) (pv 5) (fun _ _ => rfl))) pa_nil)))
        (pss_one (ps_set (i := 1) sc_kinds_of_states.nd rfl (.inr rfl) (pe_call GN hr (by rfl) gN kN bN .nil pass0 (pa_cons (pe_listZip (by rfl) (by rfl) ml (by rfl) mz (pa_cons (pv 1) (pa_cons (pv 3) pa_nil))) pa_nil)))))))
      (pss_one (ps_ret (pv 1))))), ?_⟩
    have lml := awLen hmac
    have few := ok.few
    -- the bits of the states
    refine ⟨.ref p, rfl, p, rfl, ⟨_, .inl (.inl ep)⟩, fun D hD => ?_⟩
    refine lc_it (walk_list (K := K) (a := p) (xs := ls.map V.ref)) (fun i H4 => ∃ bs, H4 D = some (.lst (bs.map V.ref)) ∧ TupsAt H4 bs ((mac.map fun row => row.map (·.1)).take i) ∧ Same H H4) ⟨[], upd_same, .nil, same_new hD⟩ (fun i H4 _ hp => ?_) (fun i x H4 H5 hi hp hy => ?_) (fun H4 hp => ?_)
    · obtain ⟨_, _, _, s4⟩ := hp
      exact .inl (.inl (s4 _ _ ep))
    · obtain ⟨bs, eD, hb, s4⟩ := hp
      obtain ⟨rfl, hx⟩ := hy
      have hi2 : i < ls.length := by rwa [List.length_map] at hi
      have hx' : x = .ref ls[i] := by
        rw [List.getElem?_map, List.getElem?_eq_getElem hi2] at hx
        exact (Option.some.inj hx).symm
      subst hx'
      obtain ⟨row, hr1, hr2⟩ := awGet hmac (List.getElem?_eq_getElem hi2)
      obtain ⟨qs, eq, hq⟩ := hr2
      have rm := List.mem_of_getElem? hr1
      have r8 := ok.rows row rm
      have ql := awLen hq
      have bl := awLen hb
      rw [List.length_take] at bl
      refine ⟨rfl, .ref ls[i], rfl, ls[i], rfl, ⟨_, .inl (.inl (s4 _ _ eq))⟩, fun G hG => ?_⟩
      refine lc_it (walk_list (K := K) (a := ls[i]) (xs := qs.map V.ref)) (fun t H6 => H6 G = some (.lst (((row.take t).map (·.1)).map V.int)) ∧ Same H5 H6) ⟨upd_same, same_new hG⟩ (fun t H6 _ hp => .inl (.inl (hp.2 _ _ (s4 _ _ eq)))) (fun t x H6 H7 ht hp hy => ?_) (fun H6 hp => ?_)
      · obtain ⟨eG, s6⟩ := hp
        obtain ⟨rfl, hx⟩ := hy
        have ht2 : t < qs.length := by rwa [List.length_map] at ht
        have hx' : x = .ref qs[t] := by
          rw [List.getElem?_map, List.getElem?_eq_getElem ht2] at hx
          exact (Option.some.inj hx).symm
        subst hx'
        obtain ⟨e, he1, he2⟩ := awGet hq (List.getElem?_eq_getElem ht2)
        have gl : ((row.take t).map (·.1)).length < sizeLine := by
          rw [List.length_map, List.length_take]
          exact small1000 (by omega)
        refine ⟨qs[t], [.int e.1, .int e.2], rfl, .inl (.inl (s6 _ _ (s4 _ _ he2))), rfl, .int e.1, [.int e.2], rfl, .int e.2, [], rfl, rfl, rfl, .int e.1, rfl, _, eG, ?_, ?_, fun b u z => ?_⟩
        · rw [List.length_map]
          exact gl
        · rw [upd_same, List.take_add_one, he1]
          simp
        · rw [upd_ne (ne_of_none z hG)]
          exact s6 b u z
      · obtain ⟨eG, s6⟩ := hp
        rw [List.length_map, ql, List.take_length] at eG
        refine ⟨G, _, rfl, .inl ⟨.inl (.inl eG), fun T hT => ?_⟩⟩
        have sT := same_new (o := .tup ((row.map (·.1)).map V.int)) hT
        have eD2 := (s6.trans sT) _ _ eD
        have tp := tups_put (o := .lst (bs.map V.ref ++ [V.ref T])) eD2
        refine ⟨_, eD2, ?_, bs ++ [T], ?_, ?_, fun b u z => ?_⟩
        · rw [List.length_map]
          exact small1000 (by omega)
        · rw [upd_same, List.map_append]
          rfl
        · rw [List.take_add_one, List.getElem?_map, hr1]
          exact awMap (fun b c z => tp _ _ z) (awSnoc (F := fun (b : Addr) (c : List Int) => (upd H6 T (.tup ((row.map (·.1)).map V.int))) b = some (.tup (c.map V.int))) upd_same (awMap (fun b c z => sT _ _ (s6 _ _ z)) hb))
        · rw [upd_ne (ne_of_none z hD)]
          exact sT _ _ (s6 _ _ (s4 b u z))
    · obtain ⟨bs, eD, hb, s4⟩ := hp
      have hb' : TupsAt H4 bs (mac.map fun row => row.map (·.1)) := by
        rw [List.length_map, lml, ← List.length_map (as := mac) (f := fun row => row.map (·.1)), List.take_length] at hb
        exact hb
      have bl : bs.length = mac.length := by rw [awLen hb', List.length_map]
      have hks : KeysAt H4 bs (mac.map fun row => kC (row.map (·.1))) := paired_of (by rw [bl, List.length_map]) fun j b key h1 h2 => by
        obtain ⟨c, h3, h4⟩ := awGet hb' h1
        rw [List.getElem?_map] at h2 h3
        cases hj : mac[j]? with
        | none => rw [hj] at h2; cases h2
        | some row =>
          rw [hj] at h2 h3
          rw [← Option.some.inj h2]
          rw [← Option.some.inj h3] at h4
          exact keyC h4
      refine ⟨D, bs, _, rfl, eD, hks, by omega, fun H5 Kd ns s5 nK eK hn => ?_⟩
      have nK0 := s4.free nK
      refine ⟨KSt H p mac, ⟨_, none, none, none, none, Kd, ns, 0, rfl, eK, KInv.first hn, s4.trans s5, nK0, rfl⟩, fun n σ H6 hp => ?_⟩
      obtain ⟨y3, y4, y5, y6, Kd, ns, many, rfl, eK, ki, s6, nK0, rfl⟩ := hp
      have nl : 0 < ns.length := by
        rw [ki.len]
        exact ok.pos
      refine ⟨.int many, rfl, .ref Kd, rfl, Kd, zs ns, rfl, .inl (.inl eK), by rwa [List.length_map], fun mI hmI hxI => ?_⟩
      obtain ⟨m, hm, rfl⟩ := mem_zs hmI
      have hx : ∀ x ∈ ns, x ≤ m := fun x hx => by
        have := hxI (x : Int) (List.mem_map.mpr ⟨x, hx, rfl⟩)
        omega
      have m256 : m < 256 := by
        obtain ⟨i, hi⟩ := List.mem_iff_getElem?.mp hm
        have h1 := rg_le ki.rg m i hi
        have h2 := (List.getElem?_eq_some_iff.mp hi).1
        have h3 := ki.len
        omega
      refine ⟨_, _, rfl, rfl, _, _, rfl, rfl, _, rfl, ite2 (fun e => ?_) (fun e => ?_)⟩
      · have lt : many < m + 1 := by
          have := of_decide_eq_true e
          omega
        refine ⟨fun σ' H' => ∃ m', m' < 300 - many ∧ KSt H p mac m' σ' H', fun σ' H' z => z, ?_⟩
        refine ⟨.ref Kd, rfl, Kd, zs ns, rfl, .inl (.inl eK), by rwa [List.length_map], fun mJ hmJ hxJ => ?_⟩
        obtain rfl : mJ = (m : Int) := by
          have h1 := hxI mJ hmJ
          have h2 := hxJ _ hmI
          omega
        refine ⟨_, _, rfl, rfl, ?_⟩
        refine ⟨.ref p, rfl, p, rfl, ⟨_, .inl (.inl (s6 _ _ ep))⟩, fun D hD => ?_⟩
        have hmac' := macl_same s6 hmac
        refine lc_it (walk_list (K := K) (a := p) (xs := ls.map V.ref)) (fun i H7 => ∃ bs, H7 D = some (.lst (bs.map V.ref)) ∧ TupsAt H7 bs ((mac.map (beh ns)).take i) ∧ Same H6 H7) ⟨[], upd_same, .nil, same_new hD⟩ (fun i H7 _ hp => ?_) (fun i x H7 H8 hi hp hy => ?_) (fun H7 hp => ?_)
        · obtain ⟨_, _, _, s7⟩ := hp
          exact .inl (.inl (s7 _ _ (s6 _ _ ep)))
        · obtain ⟨bs, eD, hb, s7⟩ := hp
          obtain ⟨rfl, hx⟩ := hy
          have hi2 : i < ls.length := by rwa [List.length_map] at hi
          have hx' : x = .ref ls[i] := by
            rw [List.getElem?_map, List.getElem?_eq_getElem hi2] at hx
            exact (Option.some.inj hx).symm
          subst hx'
          obtain ⟨row, hr1, hr2⟩ := awGet hmac' (List.getElem?_eq_getElem hi2)
          obtain ⟨qs, eq, hq⟩ := hr2
          have rm := List.mem_of_getElem? hr1
          have r8 := ok.rows row rm
          have ql := awLen hq
          have bl := awLen hb
          rw [List.length_take] at bl
          refine ⟨rfl, .ref ls[i], rfl, ls[i], rfl, ⟨_, .inl (.inl (s7 _ _ eq))⟩, fun G hG => ?_⟩
          refine lc_it (walk_list (K := K) (a := ls[i]) (xs := qs.map V.ref)) (fun t H9 => H9 G = some (.lst ((beh ns (row.take t)).map V.int)) ∧ Same H8 H9) ⟨upd_same, same_new hG⟩ (fun t H9 _ hp => .inl (.inl (hp.2 _ _ (s7 _ _ eq)))) (fun t x H9 H10 ht hp hy => ?_) (fun H9 hp => ?_)
          · obtain ⟨eG, s9⟩ := hp
            obtain ⟨rfl, hx⟩ := hy
            have ht2 : t < qs.length := by rwa [List.length_map] at ht
            have hx' : x = .ref qs[t] := by
              rw [List.getElem?_map, List.getElem?_eq_getElem ht2] at hx
              exact (Option.some.inj hx).symm
            subst hx'
            obtain ⟨e, he1, he2⟩ := awGet hq (List.getElem?_eq_getElem ht2)
            obtain ⟨j, hj1, hj2⟩ := ok.ends row rm e (List.mem_of_getElem? he1)
            have jn : j < ns.length := by
              rw [ki.len]
              exact hj2
            have gd : ns.getD e.2.toNat 0 = ns[j] := by
              rw [hj1, Int.toNat_natCast]
              simp [List.getD, List.getElem?_eq_getElem jn]
            refine ⟨qs[t], [.int e.1, .int e.2], rfl, .inl (.inl (s9 _ _ (s7 _ _ he2))), rfl, .int e.1, [.int e.2], rfl, .int e.2, [], rfl, rfl, rfl, .ref Kd, rfl, .int e.2, rfl, Kd, _, e.2, .int ((ns[j] : Nat) : Int), rfl, rfl, .inl (.inl (s9 _ _ (s7 _ _ eK))), ?_, _, eG, ?_, ?_, fun b u z => ?_⟩
            · rw [hj1]
              exact atI_nat (by rw [List.getElem?_map, List.getElem?_map, List.getElem?_eq_getElem jn]; rfl)
            · rw [List.length_map, List.length_map, List.length_take]
              exact small1000 (by omega)
            · rw [upd_same, List.take_add_one, he1]
              simp [beh, ← gd]
            · rw [upd_ne (ne_of_none z hG)]
              exact s9 b u z
          · obtain ⟨eG, s9⟩ := hp
            rw [List.length_map, ql, List.take_length] at eG
            refine ⟨G, _, rfl, .inl ⟨.inl (.inl eG), fun T hT => ?_⟩⟩
            have sT := same_new (o := .tup ((beh ns row).map V.int)) hT
            have eD2 := (s9.trans sT) _ _ eD
            have tp := tups_put (o := .lst (bs.map V.ref ++ [V.ref T])) eD2
            refine ⟨_, eD2, ?_, bs ++ [T], ?_, ?_, fun b u z => ?_⟩
            · rw [List.length_map]
              exact small1000 (by omega)
            · rw [upd_same, List.map_append]
              rfl
            · rw [List.take_add_one, List.getElem?_map, hr1]
              exact awMap (fun b c z => tp _ _ z) (awSnoc (F := fun (b : Addr) (c : List Int) => (upd H9 T (.tup ((beh ns row).map V.int))) b = some (.tup (c.map V.int))) upd_same (awMap (fun b c z => sT _ _ (s9 _ _ z)) hb))
            · rw [upd_ne (ne_of_none z hD)]
              exact sT _ _ (s9 _ _ (s7 b u z))
        · obtain ⟨bs, eD, hb, s7⟩ := hp
          have hb' : TupsAt H7 bs (mac.map (beh ns)) := by
            rw [List.length_map, lml, ← List.length_map (as := mac) (f := beh ns), List.take_length] at hb
            exact hb
          have bl : bs.length = mac.length := by rw [awLen hb', List.length_map]
          have kl := ki.len
          refine ⟨.ref Kd, rfl, .ref D, rfl, Kd, D, _, _, rfl, .inl (.inl (s7 _ _ eK)), .inl (.inl eD), by rw [List.length_map, List.length_map, List.length_map]; omega, fun H8 Z ts s8 nZ eZ hz => ?_⟩
          have tl : ts.length = mac.length := by
            rw [awLen hz, List.length_zip, List.length_map, List.length_map, List.length_map]
            omega
          have hks : KeysAt H8 ts ((ns.zip mac).map fun e => kZ e.1 (beh ns e.2)) := paired_of (by rw [tl, List.length_map, List.length_zip]; omega) fun j t key h1 h2 => by
            obtain ⟨e, h3, h4⟩ := awGet hz h1
            rw [List.getElem?_map] at h2
            have hj : j < mac.length := by
              have := (List.getElem?_eq_some_iff.mp h1).1
              omega
            have n1 : ns[j]? = some ns[j] := List.getElem?_eq_getElem (by omega)
            have m1 : mac[j]? = some mac[j] := List.getElem?_eq_getElem hj
            have b1 : bs[j]? = some bs[j] := List.getElem?_eq_getElem (by omega)
            have z1 : (ns.zip mac)[j]? = some (ns[j], mac[j]) := List.getElem?_zip_eq_some.mpr ⟨n1, m1⟩
            rw [z1] at h2
            obtain rfl := Option.some.inj h2
            have z2 : (((zs ns).map V.int).zip (bs.map V.ref))[j]? = some (.int ((ns[j] : Nat) : Int), .ref bs[j]) := List.getElem?_zip_eq_some.mpr ⟨by rw [List.getElem?_map, List.getElem?_map, n1]; rfl, by rw [List.getElem?_map, b1]; rfl⟩
            rw [z2] at h3
            obtain rfl := Option.some.inj h3
            obtain ⟨c, h5, h6⟩ := awGet hb' b1
            rw [List.getElem?_map, m1] at h5
            obtain rfl := Option.some.inj h5
            exact keyZ h4 (s8 _ _ h6)
          refine ⟨Z, ts, _, rfl, eZ, hks, by omega, fun H9 Kd2 ns2 s9 nK2 eK2 hn2 => ?_⟩
          have s69 := (s7.trans s8).trans s9
          exact ⟨300 - (m + 1), by omega, some (.ref D), y4, y5, y6, Kd2, ns2, m + 1, rfl, eK2, ki.step hm hn2, s6.trans s69, (s6.trans (s7.trans s8)).free nK2, rfl⟩
      · have ge : m + 1 ≤ many := by
          have : ¬ ((many : Int) < (m : Int) + 1) := fun z => e (decide_eq_true z)
          omega
        exact ⟨.ref Kd, rfl, q H6 Kd ns s6 nK0 eK (ki.done ok hx ge)⟩
/-! ### least_machine -/
abbrev low (ns : List Nat) (row : MRow) : MRow := row.map fun e => (e.1, ((ns.getD e.2.toNat 0 : Nat) : Int))
theorem low_eq {ns : List Nat} : ∀ {r s : MRow}, r.map (·.1) = s.map (·.1) → beh ns r = beh ns s → low ns r = low ns s
  | [], [], _, _ => rfl
  | [], _ :: _, h, _ => nomatch h
  | _ :: _, [], h, _ => nomatch h
  | x :: r, y :: s, h1, h2 => by
    simp only [beh, List.map_cons, List.cons.injEq] at h1 h2
    simp only [low, List.map_cons, List.cons.injEq]
    exact ⟨Prod.ext h1.1 h2.1, low_eq h1.2 h2.2⟩
/-- a machine walks along with the carries of a row -/
def Sim (m : Nat) (ds : List Deed) (o : Int) (lm : List MRow) (S : List Int → Nat → Prop) : Prop :=
  S (ds.map fcD) 0 ∧ ∀ c k, S c k → ∃ row, lm[k]? = some row ∧ Paired (fun (e : Int × Int) (s : Int × List Int) => e.1 = s.1 ∧ ∃ j : Nat, e.2 = (j : Int) ∧ S s.2 j) row (stp m ds o c)
structure LInv (mac : List MRow) (ns : List Nat) (lm : List MRow) (i : Nat) : Prop where
  each : ∀ (k : Nat) row, lm[k]? = some row → ∃ (i0 : Nat) (r : MRow), ns[i0]? = some k ∧ mac[i0]? = some r ∧ row = low ns r
  all : ∀ j k : Nat, j < i → ns[j]? = some k → k < lm.length
  len : lm.length ≤ i
theorem LInv.new {mac lm : List MRow} {ns : List Nat} {i : Nat} {r : MRow} (h : LInv mac ns lm i) (hk : ns[i]? = some lm.length) (hr : mac[i]? = some r) : LInv mac ns (lm ++ [low ns r]) (i + 1) := by
  refine ⟨fun k row e => ?_, fun j k hj e => ?_, by rw [List.length_append]; exact Nat.succ_le_succ h.len⟩
  · by_cases hl : k < lm.length
    · rw [List.getElem?_append_left hl] at e
      exact h.each k row e
    · rw [List.getElem?_append_right (by omega)] at e
      have h2 := (List.getElem?_eq_some_iff.mp e).1
      simp only [List.length_cons, List.length_nil] at h2
      have ek : k = lm.length := by omega
      subst ek
      rw [Nat.sub_self] at e
      exact ⟨i, r, hk, hr, (Option.some.inj e).symm⟩
  · rw [List.length_append]
    show k < lm.length + 1
    by_cases hji : j = i
    · subst hji
      rw [hk] at e
      have := Option.some.inj e
      omega
    · have := h.all j k (by omega) e
      omega
theorem LInv.old {mac lm : List MRow} {ns : List Nat} {i k : Nat} (h : LInv mac ns lm i) (rg : RG ns) (hk : ns[i]? = some k) (hn : k ≠ lm.length) : LInv mac ns lm (i + 1) := by
  refine ⟨h.each, fun j k' hj e => ?_, Nat.le_succ_of_le h.len⟩
  by_cases hji : j = i
  · subst hji
    rw [hk] at e
    obtain rfl := Option.some.inj e
    cases k with
    | zero => omega
    | succ v =>
      obtain ⟨j', h1, h2⟩ := rg j v hk
      have := h.all j' v h1 h2
      omega
  · exact h.all j k' (by omega) e
theorem LInv.sim {mac lm : List MRow} {ns : List Nat} {m : Nat} {ds : List Deed} {o : Int} {cs : List (List Int)} (h : LInv mac ns lm ns.length) (kk : KOk mac ns) (wm : WM m ds o cs mac) (hl : mac.length = cs.length) (pos : 0 < mac.length) :
    Sim m ds o lm fun c k => ∃ i : Nat, cs[i]? = some c ∧ ns[i]? = some k := by
  have nl := kk.len
  refine ⟨⟨0, wm.first, ?_⟩, fun c k => ?_⟩
  · have h0 : ns[0]? = some ns[0] := List.getElem?_eq_getElem (by omega)
    have := rg_le kk.rg _ _ h0
    rw [h0]
    congr 1
    omega
  · rintro ⟨i, h1, h2⟩
    have il := (List.getElem?_eq_some_iff.mp h2).1
    have kl := h.all i k il h2
    obtain ⟨i0, r0, a1, a2, a3⟩ := h.each k lm[k] (List.getElem?_eq_getElem kl)
    have hr : mac[i]? = some mac[i] := List.getElem?_eq_getElem (by omega)
    obtain ⟨c', b1, b2⟩ := wm.each i _ hr
    rw [h1] at b1
    obtain rfl := Option.some.inj b1
    have e1 := kk.bits i0 i k r0 _ a1 h2 a2 hr
    have e2 := kk.next i0 i k r0 _ a1 h2 a2 hr
    refine ⟨_, List.getElem?_eq_getElem kl, ?_⟩
    rw [a3, low_eq e1 e2]
    refine paired_of (by rw [List.length_map, awLen b2]) fun t e s g1 g2 => ?_
    rw [List.getElem?_map] at g1
    cases hx : (mac[i]'(by omega))[t]? with
    | none => rw [hx] at g1; cases g1
    | some x =>
      rw [hx] at g1
      obtain ⟨s', g3, g4, j, g5, g6⟩ := awGet b2 hx
      rw [g2] at g3
      obtain rfl := Option.some.inj g3
      obtain rfl := Option.some.inj g1
      have jl := (List.getElem?_eq_some_iff.mp g6).1
      have nj : ns[j]? = some ns[j] := List.getElem?_eq_getElem (by omega)
      refine ⟨g4, ns.getD x.2.toNat 0, rfl, j, g6, ?_⟩
      rw [g5, Int.toNat_natCast, List.getD_eq_getElem?_getD, nj]
      rfl
theorem wm_ok {m : Nat} {ds : List Deed} {o : Int} {cs : List (List Int)} {mac : List MRow} (wm : WM m ds o cs mac) (hl : mac.length = cs.length) (hm : m ≤ 3) (hn : ds.length ≤ 8) : MacOk mac := by
  have pos : 0 < cs.length := (List.getElem?_eq_some_iff.mp wm.first).1
  refine ⟨by omega, by rw [hl]; exact few_cs wm.nd wm.bits hn, fun row hr => ?_, fun row hr e he => ?_⟩
  · obtain ⟨i, hi⟩ := List.mem_iff_getElem?.mp hr
    obtain ⟨c, _, h2⟩ := wm.each i row hi
    rw [awLen h2, stp_len]
    exact Nat.le_trans (Nat.pow_le_pow_right (by decide) hm) (by decide)
  · obtain ⟨i, hi⟩ := List.mem_iff_getElem?.mp hr
    obtain ⟨c, _, h2⟩ := wm.each i row hi
    obtain ⟨t, ht⟩ := List.mem_iff_getElem?.mp he
    obtain ⟨s, _, _, j, h3, h4⟩ := awGet h2 ht
    exact ⟨j, h3, by rw [hl]; exact (List.getElem?_eq_some_iff.mp h4).1⟩
structure LmOk (m : Nat) (ds : List Deed) (o : Int) (lm : List MRow) : Prop where
  sim : ∃ S, Sim m ds o lm S
  few : lm.length ≤ 256
  src : ∃ cs mac ns, WM m ds o cs mac ∧ mac.length = cs.length ∧ KOk mac ns ∧ LInv mac ns lm ns.length
def spLm : Sp := fun vs H Q _ => ∃ (R : Addr) (m : Nat) (o : Int) (ds : List Deed), vs = [.ref R] ∧ RowAt H R m ds o ∧ RowOk m ds o ∧
  ∀ H' p ls lm, Same H H' → H p = none → H' p = some (.lst (ls.map V.ref)) → MacL H' ls lm → LmOk m ds o lm → Q (.ref p) H'
theorem ok_lm {f fW fK : Addr} {fd fdW fdK : FuncData} {k : Nat} (F : Fun K "least_machine" "least_machine" s_least_machine f fd)
    (GW : FnOk P w K mg base CX0 (k + 5) fW fdW ["row"] spWh) (kW : PySem.W.keepIn K (.ref fW) = true) (bW : Binds K fdW ["row"] []) (gW : mg "whole_machine" = some (.ref fW))
    (GK : FnOk P w K mg base CX0 (k + 2) fK fdK ["machine"] spKi) (kK : PySem.W.keepIn K (.ref fK) = true) (bK : Binds K fdK ["machine"] []) (gK : mg "kinds_of_states" = some (.ref fK))
    (mn : mg "len" = none) (mz : mg "zip" = none) : FnOk P w K mg base CX0 (k + 6) f fd ["row"] spLm := by
  refine F.ok sc_least_machine (fun vs H Q E h => ?_) (fun cdv A outer s H vs Q E hr h => ?_)
  · obtain ⟨R, m, o, ds, rfl, _⟩ := h
    rfl
  · obtain ⟨R, m, o, ds, rfl, hrow, hok, q⟩ := h
    have r2 := hr.mono (show k + 2 ≤ k + 5 by omega)
    refine ⟨_, pss_cons (ps_set (i := 1) sc_least_machine.nd rfl (.inl rfl) (pe_call GW hr (by rfl) gW kW bW .nil pass0 (pa_cons (pv 0) pa_nil)))
      (pss_cons (ps_set (i := 2) sc_least_machine.nd rfl (.inr rfl) (pe_call GK r2 (by rfl) gK kK bK .nil pass0 (pa_cons (pv 1) pa_nil)))
      (pss_cons (ps_set (i := 3) sc_least_machine.nd rfl (.inl rfl) (pe_lst pa_nil))
      (pss_cons (ps_for PassesOwn.never rfl (pi_zip (by rfl) mz (pa_cons (pv 2) (pa_cons (pv 1) pa_nil))) (pg_tup rfl (pgs_cons (pg_name (i := 4) sc_least_machine.nd rfl (.inl rfl)) (pgs_cons (pg_name (i := 5) sc_least_machine.nd rfl (.inl rfl)) pgs_nil)))
        (pss_one (ps_if (pt_cmpR op_eq (pv 4) (pe_callB call_len_seq (by rfl) mn PySem.boot_len (pa_cons (pv 3) pa_nil)) (nomark _))
          (pss_one (ps_expr (pe_bm PySem.F.plainAttrs_list PySem.F.slot_list_append PySem.F.type_list_append mt_append (pv 3) (pa_cons
            (pe_lc (own := [("bit", 6), ("after", 7)]) (g := gTup K 2 (gCons (gName 6) (gCons (gName 7) gNil))) (by rfl) sc_least_machine.nd (pi_list (pv 5)) (blkOk_by (own := [("bit", 6), ("after", 7)]) (N := N_least_machine) (sc := defScope s_least_machine) (by decide +kernel))
              (fun _ _ _ _ _ => pg_tup rfl (pgs_cons (pg_name (i := 6) sc_least_machine.nd rfl (.inl rfl)) (pgs_cons (pg_name (i := 7) sc_least_machine.nd rfl (.inl rfl)) pgs_nil))) (fun _ _ _ _ _ => pts_nil)
              (fun _ _ _ _ _ => pe_tup (pa_cons (pv 6) (pa_cons (pe_ix (r := rIxL K) ix_list (pv 2) (pv 7) (fun _ _ => rfl)) pa_nil)))) pa_nil)))) pss_nil)))
      (pss_one (ps_ret (pv 3)))))), ?_⟩
    refine ⟨.ref R, rfl, R, m, o, ds, rfl, hrow, hok, fun H1 p ls cs mac s1 np ep hmac wm hl => ?_⟩
    have ok := wm_ok wm hl (by have := hok.m3; omega) hok.len
    have few := ok.few
    have lml := awLen hmac
    refine ⟨.ref p, rfl, p, ls, mac, rfl, ep, hmac, ok, fun H2 Kd ns s2 nK eK kk => ?_⟩
    have nl := kk.len
    refine ⟨Nat.zero_le _, fun L hL => ?_⟩
    have sL := same_new (o := .lst []) hL
    have nLK : Kd ≠ L := ne_of_none eK hL
    have ep2 := s2 _ _ ep
    have npL : p ≠ L := ne_of_none ep2 hL
    have hmac2 := macl_same s2 hmac
    refine ⟨.ref Kd, rfl, .ref p, rfl, Kd, p, _, _, rfl, .inl (.inl (sL _ _ eK)), .inl (.inl (sL _ _ ep2)), for_it (walk_zip (K := K) (a := Kd) (b := p) (xs := (zs ns).map V.int) (ys := ls.map V.ref) (n := ns.length) (by rw [List.length_map, List.length_map, List.length_map]; omega)) (fun i σ H3 => ∃ y4 y5 y6 y7 ms lm, σ = [some (.ref R), some (.ref p), some (.ref Kd), some (.ref L), y4, y5, y6, y7] ∧ H3 L = some (.lst (ms.map V.ref)) ∧ MacL H3 ms lm ∧ LInv mac ns lm i ∧ (∀ l ∈ ms, l ≠ L) ∧ ∀ b u, H2 b = some u → H3 b = some u)
      ⟨none, none, none, none, [], [], rfl, upd_same, .nil, ⟨fun k row e => by simp at e, fun j k hj => absurd hj (Nat.not_lt_zero _), Nat.le_refl _⟩, (fun _ z => nomatch z), sL⟩ (fun i σ H3 _ hp => ?_) (fun i x σ H3 H4 hi hp hy => ?_) (fun σ H3 hp => ?_)⟩
    · obtain ⟨_, _, _, _, _, _, _, _, _, _, _, st⟩ := hp
      exact ⟨.inl (.inl (st _ _ eK)), .inl (.inl (st _ _ ep2))⟩
    · obtain ⟨y4, y5, y6, y7, ms, lm, rfl, eL, hms, li, nms, st⟩ := hp
      obtain ⟨U, x1, x2, rfl, hU, rfl, g1, g2⟩ := hy
      have hil : i < ls.length := by omega
      have e1 : x1 = .int ((ns[i] : Nat) : Int) := by
        have g1' : ((zs ns).map V.int)[i]? = some x1 := g1
        rw [List.getElem?_map, List.getElem?_map, List.getElem?_eq_getElem hi] at g1'
        exact (Option.some.inj g1').symm
      have e2 : x2 = .ref ls[i] := by
        have g2' : (ls.map V.ref)[i]? = some x2 := g2
        rw [List.getElem?_map, List.getElem?_eq_getElem hil] at g2'
        exact (Option.some.inj g2').symm
      subst e1 e2
      have sU := same_new (o := .tup [.int ((ns[i] : Nat) : Int), .ref ls[i]]) hU
      have eLU := sU _ _ eL
      have mll := awLen hms
      have lil := li.len
      refine ⟨U, [.int ((ns[i] : Nat) : Int), .ref ls[i]], rfl, .inl (.inl upd_same), rfl, .int ((ns[i] : Nat) : Int), [.ref ls[i]], rfl, .ref ls[i], [], rfl, rfl, ?_⟩
      refine ⟨.int ((ns[i] : Nat) : Int), rfl, .ref L, rfl, L, _, rfl, .inl (.inl (.inl eLU)), rfl, _, rfl, ite2 (fun e => ?_) (fun e => ?_)⟩
      · have hk : ns[i]? = some lm.length := by
          rw [List.getElem?_eq_getElem hi]
          have := V.int.inj (of_decide_eq_true e)
          rw [List.length_map] at this
          congr 1
          omega
        obtain ⟨row, hr1, qs, eq, hq⟩ := awGet hmac2 (List.getElem?_eq_getElem hil)
        have rm := List.mem_of_getElem? hr1
        have r8 := ok.rows row rm
        have ql := awLen hq
        have st2 : ∀ b u, H2 b = some u → upd H3 U (.tup [.int ((ns[i] : Nat) : Int), .ref ls[i]]) b = some u := fun b u z => sU _ _ (st b u z)
        refine ⟨.ref L, rfl, .inl ⟨rfl, _, .inl (.inl eLU)⟩, .ref ls[i], rfl, ls[i], rfl, ⟨_, .inl (.inl (st2 _ _ eq))⟩, fun G hG => ?_⟩
        refine lc_it (walk_list (K := K) (a := ls[i]) (xs := qs.map V.ref)) (fun t H6 => ∃ ws, H6 G = some (.lst (ws.map V.ref)) ∧ PrAt H6 ws ((low ns row).take t) ∧ Same (upd H3 U (.tup [.int ((ns[i] : Nat) : Int), .ref ls[i]])) H6) ⟨[], upd_same, .nil, same_new hG⟩ (fun t H6 _ hp => ?_) (fun t x H6 H7 ht hp hy => ?_) (fun H6 hp => ?_)
        · obtain ⟨_, _, _, s6⟩ := hp
          exact .inl (.inl (s6 _ _ (st2 _ _ eq)))
        · obtain ⟨ws, eG, hw, s6⟩ := hp
          obtain ⟨rfl, hx⟩ := hy
          have ht2 : t < qs.length := by rwa [List.length_map] at ht
          have hx' : x = .ref qs[t] := by
            rw [List.getElem?_map, List.getElem?_eq_getElem ht2] at hx
            exact (Option.some.inj hx).symm
          subst hx'
          obtain ⟨e, he1, he2⟩ := awGet hq (List.getElem?_eq_getElem ht2)
          obtain ⟨j, hj1, hj2⟩ := ok.ends row rm e (List.mem_of_getElem? he1)
          have jn : j < ns.length := by omega
          have gd : ns.getD e.2.toNat 0 = ns[j] := by
            rw [hj1, Int.toNat_natCast]
            simp [List.getD, List.getElem?_eq_getElem jn]
          have wl := awLen hw
          rw [List.length_take] at wl
          refine ⟨qs[t], [.int e.1, .int e.2], rfl, .inl (.inl (s6 _ _ (st2 _ _ he2))), rfl, .int e.1, [.int e.2], rfl, .int e.2, [], rfl, rfl, rfl, .int e.1, rfl, .ref Kd, rfl, .int e.2, rfl, Kd, _, e.2, .int ((ns[j] : Nat) : Int), rfl, rfl, .inl (.inl (s6 _ _ (st2 _ _ eK))), ?_, by show 2 ≤ sizeLine; decide, fun T hT => ?_⟩
          · rw [hj1]
            exact atI_nat (by rw [List.getElem?_map, List.getElem?_map, List.getElem?_eq_getElem jn]; rfl)
          have sT := same_new (o := .tup [.int e.1, .int ((ns[j] : Nat) : Int)]) hT
          have eG2 := sT _ _ eG
          have tp := tups_put (o := .lst (ws.map V.ref ++ [V.ref T])) eG2
          refine ⟨_, eG2, ?_, ws ++ [T], ?_, ?_, fun b u z => ?_⟩
          · rw [List.length_map]
            exact small1000 (by omega)
          · rw [upd_same, List.map_append]
            rfl
          · rw [List.take_add_one, List.getElem?_map, he1, Option.map_some, gd]
            exact prat_stay tp (awSnoc (F := fun (q : Addr) (e' : Int × Int) => (upd H7 T (.tup [.int e.1, .int ((ns[j] : Nat) : Int)])) q = some (.tup [.int e'.1, .int e'.2])) upd_same (prat_stay (Same.tups sT) hw))
          · rw [upd_ne (ne_of_none z hG)]
            exact sT _ _ (s6 b u z)
        · obtain ⟨ws, eG, hw, s6⟩ := hp
          rw [List.length_map, ql, ← List.length_map (as := row) (f := fun e => (e.1, ((ns.getD e.2.toNat 0 : Nat) : Int))), List.take_length] at hw
          have eL6 := s6 _ _ eLU
          have tp := tups_put (o := .lst (ms.map V.ref ++ [V.ref G])) eL6
          have nGL : G ≠ L := fun z => by rw [z, eLU] at hG; cases hG
          refine ⟨L, _, _, rfl, rfl, eL6, ?_, _, _, _, _, ms ++ [G], lm ++ [low ns row], rfl, ?_, ?_, li.new hk hr1, fun l hl => ?_, fun b u z => ?_⟩
          · rw [List.length_map]
            exact small1000 (by omega)
          · rw [upd_same, List.map_append]
            rfl
          · refine awSnoc (F := RowL (upd H6 L (.lst (ms.map V.ref ++ [V.ref G])))) ⟨ws, ?_, prat_stay tp hw⟩ (macl_stay ((Same.tups (sU.trans s6)).trans tp) (fun l hl xs z => ?_) hms)
            · rw [upd_ne nGL]
              exact eG
            · rw [upd_ne (nms l hl)]
              exact s6 _ _ (sU _ _ z)
          · rcases List.mem_append.mp hl with hl | hl
            · exact nms l hl
            · rw [List.mem_singleton.mp hl]
              exact nGL
          · rw [upd_ne (ne_of_none z hL)]
            exact s6 _ _ (st2 b u z)
      · have hk : ns[i] ≠ lm.length := fun z => e (by
          apply decide_eq_true
          rw [List.length_map, mll, z])
        exact ⟨_, _, _, _, ms, lm, rfl, eLU, macl_same sU hms, li.old kk.rg (List.getElem?_eq_getElem hi) hk, nms, fun b u z => sU _ _ (st b u z)⟩
    · obtain ⟨y4, y5, y6, y7, ms, lm, rfl, eL, hms, li, nms, st⟩ := hp
      have lil := li.len
      exact ⟨.ref L, rfl, q H3 L ms lm (fun b u z => st _ _ (s2 _ _ (s1 b u z))) ((s1.trans s2).free hL) eL hms ⟨⟨_, li.sim kk wm hl ok.pos⟩, by omega, cs, mac, ns, wm, hl, kk, li⟩⟩
def spLmN : Sp := fun vs H Q _ => ∃ (R : Addr) (m : Nat) (o : Int) (ds : List Deed), vs = [.ref R] ∧ RowAt H R m ds o ∧ RowOk m ds o ∧
  ∀ H' p ls lm, Same H H' → H p = none → H' p = some (.lst (ls.map V.ref)) → MacL H' ls lm → LmOk m ds o lm → ls.Nodup → (∀ l ∈ ls, H l = none) → Q (.ref p) H'
theorem ok_lmN {f fW fK : Addr} {fd fdW fdK : FuncData} {k : Nat} (F : Fun K "least_machine" "least_machine" s_least_machine f fd)
    (GW : FnOk P w K mg base CX0 (k + 5) fW fdW ["row"] spWh) (kW : PySem.W.keepIn K (.ref fW) = true) (bW : Binds K fdW ["row"] []) (gW : mg "whole_machine" = some (.ref fW))
    (GK : FnOk P w K mg base CX0 (k + 2) fK fdK ["machine"] spKi) (kK : PySem.W.keepIn K (.ref fK) = true) (bK : Binds K fdK ["machine"] []) (gK : mg "kinds_of_states" = some (.ref fK))
    (mn : mg "len" = none) (mz : mg "zip" = none) : FnOk P w K mg base CX0 (k + 6) f fd ["row"] spLmN := by
  refine F.ok sc_least_machine (fun vs H Q E h => ?_) (fun cdv A outer s H vs Q E hr h => ?_)
  · obtain ⟨R, m, o, ds, rfl, _⟩ := h
    rfl
  · obtain ⟨R, m, o, ds, rfl, hrow, hok, q⟩ := h
    have r2 := hr.mono (show k + 2 ≤ k + 5 by omega)
    refine ⟨_, pss_cons (ps_set (i := 1) sc_least_machine.nd rfl (.inl rfl) (pe_call GW hr (by rfl) gW kW bW .nil pass0 (pa_cons (pv 0) pa_nil)))
      (pss_cons (ps_set (i := 2) sc_least_machine.nd rfl (.inr rfl) (pe_call GK r2 (by rfl) gK kK bK .nil pass0 (pa_cons (pv 1) pa_nil)))
      (pss_cons (ps_set (i := 3) sc_least_machine.nd rfl (.inl rfl) (pe_lst pa_nil))
      (pss_cons (ps_for PassesOwn.never rfl (pi_zip (by rfl) mz (pa_cons (pv 2) (pa_cons (pv 1) pa_nil))) (pg_tup rfl (pgs_cons (pg_name (i := 4) sc_least_machine.nd rfl (.inl rfl)) (pgs_cons (pg_name (i := 5) sc_least_machine.nd rfl (.inl rfl)) pgs_nil)))
        (pss_one (ps_if (pt_cmpR op_eq (pv 4) (pe_callB call_len_seq (by rfl) mn PySem.boot_len (pa_cons (pv 3) pa_nil)) (nomark _))
          (pss_one (ps_expr (pe_bm PySem.F.plainAttrs_list PySem.F.slot_list_append PySem.F.type_list_append mt_append (pv 3) (pa_cons
            (pe_lc (own := [("bit", 6), ("after", 7)]) (g := gTup K 2 (gCons (gName 6) (gCons (gName 7) gNil))) (by rfl) sc_least_machine.nd (pi_list (pv 5)) (blkOk_by (own := [("bit", 6), ("after", 7)]) (N := N_least_machine) (sc := defScope s_least_machine) (by decide +kernel))
              (fun _ _ _ _ _ => pg_tup rfl (pgs_cons (pg_name (i := 6) sc_least_machine.nd rfl (.inl rfl)) (pgs_cons (pg_name (i := 7) sc_least_machine.nd rfl (.inl rfl)) pgs_nil))) (fun _ _ _ _ _ => pts_nil)
              (fun _ _ _ _ _ => pe_tup (pa_cons (pv 6) (pa_cons (pe_ix (r := rIxL K) ix_list (pv 2) (pv 7) (fun _ _ => rfl)) pa_nil)))) pa_nil)))) pss_nil)))
      (pss_one (ps_ret (pv 3)))))), ?_⟩
    refine ⟨.ref R, rfl, R, m, o, ds, rfl, hrow, hok, fun H1 p ls cs mac s1 np ep hmac wm hl => ?_⟩
    have ok := wm_ok wm hl (by have := hok.m3; omega) hok.len
    have few := ok.few
    have lml := awLen hmac
    refine ⟨.ref p, rfl, p, ls, mac, rfl, ep, hmac, ok, fun H2 Kd ns s2 nK eK kk => ?_⟩
    have nl := kk.len
    refine ⟨Nat.zero_le _, fun L hL => ?_⟩
    have sL := same_new (o := .lst []) hL
    have nLK : Kd ≠ L := ne_of_none eK hL
    have ep2 := s2 _ _ ep
    have npL : p ≠ L := ne_of_none ep2 hL
    have hmac2 := macl_same s2 hmac
    refine ⟨.ref Kd, rfl, .ref p, rfl, Kd, p, _, _, rfl, .inl (.inl (sL _ _ eK)), .inl (.inl (sL _ _ ep2)), for_it (walk_zip (K := K) (a := Kd) (b := p) (xs := (zs ns).map V.int) (ys := ls.map V.ref) (n := ns.length) (by rw [List.length_map, List.length_map, List.length_map]; omega)) (fun i σ H3 => ∃ y4 y5 y6 y7 ms lm, σ = [some (.ref R), some (.ref p), some (.ref Kd), some (.ref L), y4, y5, y6, y7] ∧ H3 L = some (.lst (ms.map V.ref)) ∧ MacL H3 ms lm ∧ LInv mac ns lm i ∧ ((∀ l ∈ ms, l ≠ L) ∧ ms.Nodup ∧ ∀ l ∈ ms, H l = none) ∧ ∀ b u, H2 b = some u → H3 b = some u)
      ⟨none, none, none, none, [], [], rfl, upd_same, .nil, ⟨fun k row e => by simp at e, fun j k hj => absurd hj (Nat.not_lt_zero _), Nat.le_refl _⟩, ⟨(fun _ z => nomatch z), List.nodup_nil, (fun _ z => nomatch z)⟩, sL⟩ (fun i σ H3 _ hp => ?_) (fun i x σ H3 H4 hi hp hy => ?_) (fun σ H3 hp => ?_)⟩
    · obtain ⟨_, _, _, _, _, _, _, _, _, _, _, st⟩ := hp
      exact ⟨.inl (.inl (st _ _ eK)), .inl (.inl (st _ _ ep2))⟩
    · obtain ⟨y4, y5, y6, y7, ms, lm, rfl, eL, hms, li, nms, st⟩ := hp
      obtain ⟨U, x1, x2, rfl, hU, rfl, g1, g2⟩ := hy
      have hil : i < ls.length := by omega
      have e1 : x1 = .int ((ns[i] : Nat) : Int) := by
        have g1' : ((zs ns).map V.int)[i]? = some x1 := g1
        rw [List.getElem?_map, List.getElem?_map, List.getElem?_eq_getElem hi] at g1'
        exact (Option.some.inj g1').symm
      have e2 : x2 = .ref ls[i] := by
        have g2' : (ls.map V.ref)[i]? = some x2 := g2
        rw [List.getElem?_map, List.getElem?_eq_getElem hil] at g2'
        exact (Option.some.inj g2').symm
      subst e1 e2
      have sU := same_new (o := .tup [.int ((ns[i] : Nat) : Int), .ref ls[i]]) hU
      have eLU := sU _ _ eL
      have mll := awLen hms
      have lil := li.len
      refine ⟨U, [.int ((ns[i] : Nat) : Int), .ref ls[i]], rfl, .inl (.inl upd_same), rfl, .int ((ns[i] : Nat) : Int), [.ref ls[i]], rfl, .ref ls[i], [], rfl, rfl, ?_⟩
      refine ⟨.int ((ns[i] : Nat) : Int), rfl, .ref L, rfl, L, _, rfl, .inl (.inl (.inl eLU)), rfl, _, rfl, ite2 (fun e => ?_) (fun e => ?_)⟩
      · have hk : ns[i]? = some lm.length := by
          rw [List.getElem?_eq_getElem hi]
          have := V.int.inj (of_decide_eq_true e)
          rw [List.length_map] at this
          congr 1
          omega
        obtain ⟨row, hr1, qs, eq, hq⟩ := awGet hmac2 (List.getElem?_eq_getElem hil)
        have rm := List.mem_of_getElem? hr1
        have r8 := ok.rows row rm
        have ql := awLen hq
        have st2 : ∀ b u, H2 b = some u → upd H3 U (.tup [.int ((ns[i] : Nat) : Int), .ref ls[i]]) b = some u := fun b u z => sU _ _ (st b u z)
        refine ⟨.ref L, rfl, .inl ⟨rfl, _, .inl (.inl eLU)⟩, .ref ls[i], rfl, ls[i], rfl, ⟨_, .inl (.inl (st2 _ _ eq))⟩, fun G hG => ?_⟩
        refine lc_it (walk_list (K := K) (a := ls[i]) (xs := qs.map V.ref)) (fun t H6 => ∃ ws, H6 G = some (.lst (ws.map V.ref)) ∧ PrAt H6 ws ((low ns row).take t) ∧ Same (upd H3 U (.tup [.int ((ns[i] : Nat) : Int), .ref ls[i]])) H6) ⟨[], upd_same, .nil, same_new hG⟩ (fun t H6 _ hp => ?_) (fun t x H6 H7 ht hp hy => ?_) (fun H6 hp => ?_)
        · obtain ⟨_, _, _, s6⟩ := hp
          exact .inl (.inl (s6 _ _ (st2 _ _ eq)))
        · obtain ⟨ws, eG, hw, s6⟩ := hp
          obtain ⟨rfl, hx⟩ := hy
          have ht2 : t < qs.length := by rwa [List.length_map] at ht
          have hx' : x = .ref qs[t] := by
            rw [List.getElem?_map, List.getElem?_eq_getElem ht2] at hx
            exact (Option.some.inj hx).symm
          subst hx'
          obtain ⟨e, he1, he2⟩ := awGet hq (List.getElem?_eq_getElem ht2)
          obtain ⟨j, hj1, hj2⟩ := ok.ends row rm e (List.mem_of_getElem? he1)
          have jn : j < ns.length := by omega
          have gd : ns.getD e.2.toNat 0 = ns[j] := by
            rw [hj1, Int.toNat_natCast]
            simp [List.getD, List.getElem?_eq_getElem jn]
          have wl := awLen hw
          rw [List.length_take] at wl
          refine ⟨qs[t], [.int e.1, .int e.2], rfl, .inl (.inl (s6 _ _ (st2 _ _ he2))), rfl, .int e.1, [.int e.2], rfl, .int e.2, [], rfl, rfl, rfl, .int e.1, rfl, .ref Kd, rfl, .int e.2, rfl, Kd, _, e.2, .int ((ns[j] : Nat) : Int), rfl, rfl, .inl (.inl (s6 _ _ (st2 _ _ eK))), ?_, by show 2 ≤ sizeLine; decide, fun T hT => ?_⟩
          · rw [hj1]
            exact atI_nat (by rw [List.getElem?_map, List.getElem?_map, List.getElem?_eq_getElem jn]; rfl)
          have sT := same_new (o := .tup [.int e.1, .int ((ns[j] : Nat) : Int)]) hT
          have eG2 := sT _ _ eG
          have tp := tups_put (o := .lst (ws.map V.ref ++ [V.ref T])) eG2
          refine ⟨_, eG2, ?_, ws ++ [T], ?_, ?_, fun b u z => ?_⟩
          · rw [List.length_map]
            exact small1000 (by omega)
          · rw [upd_same, List.map_append]
            rfl
          · rw [List.take_add_one, List.getElem?_map, he1, Option.map_some, gd]
            exact prat_stay tp (awSnoc (F := fun (q : Addr) (e' : Int × Int) => (upd H7 T (.tup [.int e.1, .int ((ns[j] : Nat) : Int)])) q = some (.tup [.int e'.1, .int e'.2])) upd_same (prat_stay (Same.tups sT) hw))
          · rw [upd_ne (ne_of_none z hG)]
            exact sT _ _ (s6 b u z)
        · obtain ⟨ws, eG, hw, s6⟩ := hp
          rw [List.length_map, ql, ← List.length_map (as := row) (f := fun e => (e.1, ((ns.getD e.2.toNat 0 : Nat) : Int))), List.take_length] at hw
          have eL6 := s6 _ _ eLU
          have tp := tups_put (o := .lst (ms.map V.ref ++ [V.ref G])) eL6
          have nGL : G ≠ L := fun z => by rw [z, eLU] at hG; cases hG
          refine ⟨L, _, _, rfl, rfl, eL6, ?_, _, _, _, _, ms ++ [G], lm ++ [low ns row], rfl, ?_, ?_, li.new hk hr1, ⟨fun l hl => ?_, ?_, fun l hl => ?_⟩, fun b u z => ?_⟩
          · rw [List.length_map]
            exact small1000 (by omega)
          · rw [upd_same, List.map_append]
            rfl
          · refine awSnoc (F := RowL (upd H6 L (.lst (ms.map V.ref ++ [V.ref G])))) ⟨ws, ?_, prat_stay tp hw⟩ (macl_stay ((Same.tups (sU.trans s6)).trans tp) (fun l hl xs z => ?_) hms)
            · rw [upd_ne nGL]
              exact eG
            · rw [upd_ne (nms.1 l hl)]
              exact s6 _ _ (sU _ _ z)
          · rcases List.mem_append.mp hl with hl | hl
            · exact nms.1 l hl
            · rw [List.mem_singleton.mp hl]
              exact nGL
          · rw [List.nodup_append]
            refine ⟨nms.2.1, by simp, fun x hx y hy z => ?_⟩
            rw [List.mem_singleton.mp hy] at z
            obtain ⟨j, hj⟩ := List.mem_iff_getElem?.mp hx
            obtain ⟨_, _, _, h1, _⟩ := awGet hms hj
            rw [z] at h1
            rw [sU _ _ h1] at hG
            cases hG
          · rcases List.mem_append.mp hl with hl | hl
            · exact nms.2.2 l hl
            · rw [List.mem_singleton.mp hl]
              cases hz : H G with
              | none => rfl
              | some u =>
                have := st2 _ _ (s2 _ _ (s1 _ _ hz))
                rw [this] at hG
                cases hG
          · rw [upd_ne (ne_of_none z hL)]
            exact s6 _ _ (st2 b u z)
      · have hk : ns[i] ≠ lm.length := fun z => e (by
          apply decide_eq_true
          rw [List.length_map, mll, z])
        exact ⟨_, _, _, _, ms, lm, rfl, eLU, macl_same sU hms, li.old kk.rg (List.getElem?_eq_getElem hi) hk, nms, fun b u z => sU _ _ (st b u z)⟩
    · obtain ⟨y4, y5, y6, y7, ms, lm, rfl, eL, hms, li, nms, st⟩ := hp
      have lil := li.len
      exact ⟨.ref L, rfl, q H3 L ms lm (fun b u z => st _ _ (s2 _ _ (s1 b u z))) ((s1.trans s2).free hL) eL hms ⟨⟨_, li.sim kk wm hl ok.pos⟩, by omega, cs, mac, ns, wm, hl, kk, li⟩ nms.2.1 nms.2.2⟩
/-! ### the least machine is one only -/
/-- what a kind of states tells, and the kinds behind it -/
def nxK (mac : List MRow) (ns : List Nat) (k : Nat) : List (Int × Nat) := (mac.getD (ns.findIdx fun u => decide (u = k)) []).map fun e => (e.1, ns.getD e.2.toNat 0)
theorem fst_at {ns : List Nat} {k i : Nat} (h : ns[i]? = some k) : ns[ns.findIdx fun u => decide (u = k)]? = some k ∧ (ns.findIdx fun u => decide (u = k)) ≤ i := by
  have hlt : (ns.findIdx fun u => decide (u = k)) < ns.length := List.findIdx_lt_length_of_exists ⟨k, List.mem_of_getElem? h, by simp⟩
  refine ⟨?_, ?_⟩
  · rw [List.getElem?_eq_getElem hlt]
    exact congrArg some (of_decide_eq_true (List.findIdx_getElem (w := hlt)))
  · apply Nat.le_of_not_lt
    intro z
    have := List.not_of_lt_findIdx z
    obtain ⟨hl, e⟩ := List.getElem?_eq_some_iff.mp h
    exact absurd e (of_decide_eq_false this)
theorem low_nx {ns : List Nat} : ∀ {r s : MRow}, r.map (·.1) = s.map (·.1) → beh ns r = beh ns s → (r.map fun e => (e.1, ns.getD e.2.toNat 0)) = s.map fun e => (e.1, ns.getD e.2.toNat 0)
  | [], [], _, _ => rfl
  | [], _ :: _, h, _ => nomatch h
  | _ :: _, [], h, _ => nomatch h
  | x :: r, y :: s, h1, h2 => by
    simp only [beh, List.map_cons, List.cons.injEq] at h1 h2
    simp only [List.map_cons, List.cons.injEq]
    exact ⟨Prod.ext h1.1 (Int.ofNat.inj h2.1), low_nx h1.2 h2.2⟩
theorem nxK_at {mac : List MRow} {ns : List Nat} (kk : KOk mac ns) {i k : Nat} {r : MRow} (h : ns[i]? = some k) (hr : mac[i]? = some r) : nxK mac ns k = r.map fun e => (e.1, ns.getD e.2.toNat 0) := by
  obtain ⟨h1, _⟩ := fst_at h
  have l1 := (List.getElem?_eq_some_iff.mp h1).1
  have kl := kk.len
  have e : mac[ns.findIdx fun u => decide (u = k)]? = some (mac[ns.findIdx fun u => decide (u = k)]'(by omega)) := List.getElem?_eq_getElem (by omega)
  unfold nxK
  rw [List.getD_eq_getElem?_getD, e]
  exact low_nx (kk.bits _ _ _ _ _ h1 h e hr) (kk.next _ _ _ _ _ h1 h e hr)
theorem rg_first {ns : List Nat} (rg : RG ns) {k i j x : Nat} (hi : ns[i]? = some k) (hj : ns[j]? = some x) (lt : j < ns.findIdx fun u => decide (u = k)) : x < k := by
  apply Nat.lt_of_not_le
  intro z
  -- from x down to k within j
  have dn : ∀ (d y j' : Nat), ns[j']? = some y → y = k + d → ∃ j2, j2 ≤ j' ∧ ns[j2]? = some k := fun d => by
    induction d with
    | zero => intro y j' e1 e2; exact ⟨j', Nat.le_refl _, by rw [e1, e2]; rfl⟩
    | succ d ih =>
      intro y j' e1 e2
      obtain ⟨j3, g1, g2⟩ := rg j' (k + d) (by rw [e1, e2]; rfl)
      obtain ⟨j2, g3, g4⟩ := ih _ j3 g2 rfl
      exact ⟨j2, by omega, g4⟩
  obtain ⟨j2, g1, g2⟩ := dn (x - k) x j hj (by omega)
  have := (fst_at g2).2
  omega
theorem rg_max {ns : List Nat} (rg : RG ns) {k i : Nat} (hi : ns[i]? = some k) : ∀ v, v ≤ k → ∃ j : Nat, ns[j]? = some v := fun v hv => rg_down rg (k - v) v i (by rw [hi]; congr 1; omega)
/-- the kinds come in the order in which they are first met -/
theorem ford_kinds {m : Nat} {ds : List Deed} {o : Int} {cs : List (List Int)} {mac : List MRow} {ns : List Nat} (wm : WM m ds o cs mac) (hl : mac.length = cs.length) (kk : KOk mac ns) {n : Nat} (hn : ∀ k, k < n ↔ k ∈ ns) : FOrd (nxK mac ns) (List.range n) := by
  have kl := kk.len
  intro k c hk hc
  have hkn := (List.getElem?_eq_some_iff.mp hc).1
  rw [List.length_range] at hkn
  rw [List.getElem?_range hkn] at hc
  obtain rfl := Option.some.inj hc
  obtain ⟨i0, hi0⟩ := List.mem_iff_getElem?.mp ((hn k).mp hkn)
  obtain ⟨hi, _⟩ := fst_at hi0
  have before : ∀ (j x : Nat), ns[j]? = some x → j < (ns.findIdx fun u => decide (u = k)) → x < k := fun j x hj lt => rg_first kk.rg hi0 hj lt
  generalize (ns.findIdx fun u => decide (u = k)) = i at hi before
  have il := (List.getElem?_eq_some_iff.mp hi).1
  have ipos : 0 < i := by
    apply Nat.pos_of_ne_zero
    rintro rfl
    have := rg_le kk.rg _ _ hi
    omega
  obtain ⟨p, t, a, s, p1, p2, p3, p4, p5⟩ := wm.fo i cs[i] ipos (List.getElem?_eq_getElem (by omega))
  have np : ns[p]? = some ns[p] := List.getElem?_eq_getElem (by omega)
  have pk := before p _ np p1
  -- the state behind a state
  have beh_ : ∀ (p' t' : Nat) (a' : List Int) (s' : Int × List Int) (j : Nat), cs[p']? = some a' → (stp m ds o a')[t']? = some s' → cs[j]? = some s'.2 → ∃ (x y : Nat) (b : Int), ns[p']? = some x ∧ ns[j]? = some y ∧ (nxK mac ns x)[t']? = some (b, y) := fun p' t' a' s' j q1 q2 q3 => by
    have pl := (List.getElem?_eq_some_iff.mp q1).1
    have jl := (List.getElem?_eq_some_iff.mp q3).1
    have er : mac[p']? = some mac[p'] := List.getElem?_eq_getElem (by omega)
    obtain ⟨c, w1, w2⟩ := wm.each p' _ er
    rw [q1] at w1
    obtain rfl := Option.some.inj w1
    obtain ⟨e, w3, w4, j', w5, w6⟩ := awGet2 w2 q2
    have ej := nd_idx wm.nd w6 q3
    subst ej
    have nx : ns[p']? = some ns[p'] := List.getElem?_eq_getElem (by omega)
    have ny : ns[j']? = some ns[j'] := List.getElem?_eq_getElem (by omega)
    refine ⟨_, _, e.1, nx, ny, ?_⟩
    rw [nxK_at kk nx er, List.getElem?_map, w3, Option.map_some, w5, Int.toNat_natCast, List.getD_eq_getElem?_getD, ny]
    rfl
  obtain ⟨x, y, b, x1, y1, x2⟩ := beh_ p t a s i p2 p3 (by rw [p4]; exact List.getElem?_eq_getElem (by omega))
  rw [np] at x1
  obtain rfl := Option.some.inj x1
  rw [hi] at y1
  obtain rfl := Option.some.inj y1
  have rangeAt : ∀ v, v < n → (List.range n)[v]? = some v := fun v hv => List.getElem?_range hv
  refine ⟨ns[p], t, ns[p], (b, k), pk, rangeAt _ (by omega), x2, rfl, fun p' t' a' s' h1 h2 h3 => ?_⟩
  have p'n := (List.getElem?_eq_some_iff.mp h2).1
  rw [List.length_range] at p'n
  rw [rangeAt _ p'n] at h2
  obtain rfl := Option.some.inj h2
  -- the first state of the kind p'
  obtain ⟨i1, hi1⟩ := List.mem_iff_getElem?.mp ((hn p').mp p'n)
  obtain ⟨f1, _⟩ := fst_at hi1
  have fp : (ns.findIdx fun u => decide (u = p')) < p ∨ (ns.findIdx fun u => decide (u = p')) = p ∧ t' < t := by
    rcases h1 with h1 | ⟨h1, h4⟩
    · left
      apply Nat.lt_of_not_le
      intro z
      rcases Nat.lt_or_eq_of_le z with z | z
      · have := rg_first kk.rg hi1 np z
        omega
      · rw [← z, np] at f1
        have := Option.some.inj f1
        omega
    · have := (fst_at (ns := ns) (k := p') (i := p) (by rw [np, h1])).2
      rcases Nat.lt_or_eq_of_le this with z | z
      · exact .inl z
      · exact .inr ⟨z, h4⟩
  generalize (ns.findIdx fun u => decide (u = p')) = i2 at f1 fp
  have i2l := (List.getElem?_eq_some_iff.mp f1).1
  have ec : cs[i2]? = some (cs[i2]'(by omega)) := List.getElem?_eq_getElem (by omega)
  have er : mac[i2]? = some (mac[i2]'(by omega)) := List.getElem?_eq_getElem (by omega)
  obtain ⟨c, w1, w2⟩ := wm.each i2 _ er
  rw [ec] at w1
  obtain rfl := Option.some.inj w1
  have h3' := h3
  rw [nxK_at kk f1 er, List.getElem?_map] at h3'
  cases ht : (mac[i2]'(by omega))[t']? with
  | none => rw [ht] at h3'; cases h3'
  | some e =>
    obtain ⟨s2, v1, v2, j2, v3, v4⟩ := awGet w2 ht
    obtain ⟨j, g1, g2⟩ := p5 i2 t' _ s2 fp ec v1
    obtain ⟨x', y', b', x3, y3, x4⟩ := beh_ i2 t' _ s2 j ec v1 g2
    rw [f1] at x3
    obtain rfl := Option.some.inj x3
    rw [h3] at x4
    obtain rfl := Option.some.inj x4
    have := before j _ y3 g1
    exact ⟨y', this, rangeAt _ (by omega)⟩
theorem linv_mem {mac lm : List MRow} {ns : List Nat} (h : LInv mac ns lm ns.length) (k : Nat) : k < lm.length ↔ k ∈ ns := by
  constructor
  · intro hk
    obtain ⟨i0, r, h1, _⟩ := h.each k lm[k] (List.getElem?_eq_getElem hk)
    exact List.mem_of_getElem? h1
  · intro hk
    obtain ⟨j, hj⟩ := List.mem_iff_getElem?.mp hk
    exact h.all j k (List.getElem?_eq_some_iff.mp hj).1 hj
theorem linv_row {mac lm : List MRow} {ns : List Nat} (h : LInv mac ns lm ns.length) (kk : KOk mac ns) {k : Nat} {row : MRow} (e : lm[k]? = some row) : row = (nxK mac ns k).map fun e => (e.1, (e.2 : Int)) := by
  obtain ⟨i0, r, h1, h2, h3⟩ := h.each k row e
  rw [h3, nxK_at kk h1 h2, List.map_map]
  rfl
/-- a machine that was numbered in another way, kind by kind as they are met -/
structure LNum (mac : List MRow) (ns : List Nat) (os : List Nat) (fm : List MRow) : Prop where
  nd : (os.map fun i => ns.getD i 0).Nodup
  first : os[0]? = some 0
  bnd : ∀ i ∈ os, i < ns.length
  fo : FOrd (nxK mac ns) (os.map fun i => ns.getD i 0)
  each : ∀ (k : Nat) row, fm[k]? = some row → ∃ i r, os[k]? = some i ∧ mac[i]? = some r ∧ Paired (fun (e e' : Int × Int) => e'.1 = e.1 ∧ ∃ j i' : Nat, e'.2 = (j : Int) ∧ os[j]? = some i' ∧ ns.getD i' 0 = ns.getD e.2.toNat 0) r row
theorem LNum.eq {m : Nat} {ds : List Deed} {o : Int} {cs : List (List Int)} {mac lm fm : List MRow} {ns os : List Nat} (h : LNum mac ns os fm) (hf : fm.length = os.length) (wm : WM m ds o cs mac) (hl : mac.length = cs.length) (kk : KOk mac ns) (li : LInv mac ns lm ns.length) : fm = lm := by
  have kl := kk.len
  have pos : 0 < cs.length := (List.getElem?_eq_some_iff.mp wm.first).1
  have fo := ford_kinds wm hl kk (linv_mem li)
  have getd : ∀ i, i < ns.length → ns[i]? = some (ns.getD i 0) := fun i hi => by rw [List.getD_eq_getElem?_getD, List.getElem?_eq_getElem hi]; rfl
  have z0 : ns[0]? = some 0 := by
    have h0 : ns[0]? = some ns[0] := List.getElem?_eq_getElem (by omega)
    have := rg_le kk.rg _ _ h0
    rw [h0]
    congr 1
    omega
  have lpos : 0 < lm.length := (linv_mem li 0).mpr (List.mem_of_getElem? z0)
  have opos : 0 < os.length := (List.getElem?_eq_some_iff.mp h.first).1
  have eq := ford_eq h.nd List.nodup_range (by rw [List.getElem?_map, h.first, List.getElem?_range lpos, Option.map_some, List.getD_eq_getElem?_getD, z0]; rfl) h.fo fo (fun a ha s hs => ?_) (fun a ha s hs => ?_) (by rwa [List.length_map]) (by rwa [List.length_range])
  · -- so the numbers are the kinds
    have ol : os.length = lm.length := by
      have := congrArg List.length eq
      rwa [List.length_map, List.length_range] at this
    have kind : ∀ (k i : Nat), os[k]? = some i → ns.getD i 0 = k := fun k i e => by
      have h1 : (os.map fun i => ns.getD i 0)[k]? = some (ns.getD i 0) := by rw [List.getElem?_map, e]; rfl
      rw [eq, List.getElem?_range (by have := (List.getElem?_eq_some_iff.mp e).1; omega)] at h1
      exact (Option.some.inj h1).symm
    refine List.ext_getElem (by omega) fun k h1 h2 => ?_
    obtain ⟨i, r, e1, e2, e3⟩ := h.each k _ (List.getElem?_eq_getElem h1)
    have ki := kind k i e1
    have ni : ns[i]? = some k := by rw [getd i (h.bnd i (List.mem_of_getElem? e1)), ki]
    rw [linv_row li kk (List.getElem?_eq_getElem h2), nxK_at kk ni e2, List.map_map]
    apply List.ext_getElem?
    intro t
    rw [List.getElem?_map]
    cases ht : r[t]? with
    | none =>
      rw [Option.map_none, List.getElem?_eq_none_iff, ← awLen e3]
      exact List.getElem?_eq_none_iff.mp ht
    | some e =>
      obtain ⟨e', g1, g2, j, i', g3, g4, g5⟩ := awGet e3 ht
      rw [g1, Option.map_some]
      refine congrArg some (Prod.ext g2 ?_)
      rw [g3, ← kind j i' g4, g5]
      rfl
  · -- closed: the rows of fm
    obtain ⟨i, hi, rfl⟩ := List.mem_map.mp ha
    obtain ⟨k, hk⟩ := List.mem_iff_getElem?.mp hi
    have kl2 := (List.getElem?_eq_some_iff.mp hk).1
    obtain ⟨i', r, e1, e2, e3⟩ := h.each k fm[k] (List.getElem?_eq_getElem (by omega))
    rw [hk] at e1
    obtain rfl := Option.some.inj e1
    rw [nxK_at kk (getd i (h.bnd i hi)) e2] at hs
    obtain ⟨e, g1, rfl⟩ := List.mem_map.mp hs
    obtain ⟨t, ht⟩ := List.mem_iff_getElem?.mp g1
    obtain ⟨e', _, _, j, i', _, g4, g5⟩ := awGet e3 ht
    rw [← g5]
    exact List.mem_map.mpr ⟨i', List.mem_of_getElem? g4, rfl⟩
  · rw [List.mem_range] at ha ⊢
    obtain ⟨i, hi⟩ := List.mem_iff_getElem?.mp ((linv_mem li a).mp ha)
    have il := (List.getElem?_eq_some_iff.mp hi).1
    have er : mac[i]? = some (mac[i]'(by omega)) := List.getElem?_eq_getElem (by omega)
    rw [nxK_at kk hi er] at hs
    obtain ⟨e, g1, rfl⟩ := List.mem_map.mp hs
    obtain ⟨t, ht⟩ := List.mem_iff_getElem?.mp g1
    obtain ⟨c, w1, w2⟩ := wm.each i _ er
    obtain ⟨s', _, _, j, v3, v4⟩ := awGet w2 ht
    have jl := (List.getElem?_eq_some_iff.mp v4).1
    refine (linv_mem li _).mpr ?_
    rw [v3, Int.toNat_natCast]
    exact List.mem_of_getElem? (getd j (by omega))
/-- the machine of all carries is one only -/
theorem wm_eq {m : Nat} {ds : List Deed} {o : Int} {cs cs' : List (List Int)} {mac mac' : List MRow} (wm : WM m ds o cs mac) (hl : mac.length = cs.length) (wm' : WM m ds o cs' mac') (hl' : mac'.length = cs'.length) : mac = mac' := by
  have cl : ∀ {cs : List (List Int)} {mac : List MRow}, WM m ds o cs mac → mac.length = cs.length → ∀ a ∈ cs, ∀ s ∈ stp m ds o a, s.2 ∈ cs := fun {cs mac} wm hl a ha s hs => by
    obtain ⟨i, hi⟩ := List.mem_iff_getElem?.mp ha
    have il := (List.getElem?_eq_some_iff.mp hi).1
    obtain ⟨c, w1, w2⟩ := wm.each i _ (List.getElem?_eq_getElem (show i < mac.length by omega))
    rw [hi] at w1
    obtain rfl := Option.some.inj w1
    obtain ⟨t, ht⟩ := List.mem_iff_getElem?.mp hs
    obtain ⟨e, _, _, j, _, w6⟩ := awGet2 w2 ht
    exact List.mem_of_getElem? w6
  have pos : 0 < cs.length := (List.getElem?_eq_some_iff.mp wm.first).1
  have pos' : 0 < cs'.length := (List.getElem?_eq_some_iff.mp wm'.first).1
  have eq := ford_eq wm.nd wm'.nd (wm.first.trans wm'.first.symm) wm.fo wm'.fo (cl wm hl) (cl wm' hl') pos pos'
  subst eq
  refine List.ext_getElem (by omega) fun i h1 h2 => ?_
  obtain ⟨c, a1, a2⟩ := wm.each i _ (List.getElem?_eq_getElem h1)
  obtain ⟨c', b1, b2⟩ := wm'.each i _ (List.getElem?_eq_getElem h2)
  rw [a1] at b1
  obtain rfl := Option.some.inj b1
  refine List.ext_getElem (by rw [awLen a2, awLen b2]) fun t g1 g2 => ?_
  obtain ⟨s, e1, e2, j, e3, e4⟩ := awGet a2 (List.getElem?_eq_getElem g1)
  obtain ⟨s', d1, d2, j', d3, d4⟩ := awGet b2 (List.getElem?_eq_getElem g2)
  rw [e1] at d1
  obtain rfl := Option.some.inj d1
  refine Prod.ext (e2.trans d2.symm) ?_
  rw [e3, d3, nd_idx wm.nd e4 d4]
/-! ### pairs of carries that come (of sec_wsum, sec_bfs, sec_rtm, sec_psem, alone) -/
abbrev PC := List Int × List Int
def ob (ds : List Deed) (o : Int) (c bs : List Int) : Int := (bts ds c bs).getD o.toNat 0
def nc (ds : List Deed) (c bs : List Int) : List Int := nxt ds c (bts ds c bs)
def nx2 (ds1 ds2 : List Deed) (q : PC) (bs : List Int) : PC := (nc ds1 q.1 bs, nc ds2 q.2 bs)
def RtS (m : Nat) (ds1 ds2 : List Deed) : Nat → PC → Prop
  | 0, q => q = (ds1.map fcD, ds2.map fcD)
  | t + 1, q => ∃ q0 bs, RtS m ds1 ds2 t q0 ∧ bs ∈ allB m ∧ q = nx2 ds1 ds2 q0 bs
def PrtS (m : Nat) (ds1 : List Deed) (o1 : Int) (ds2 : List Deed) (o2 : Int) (t : Nat) : Prop := ∃ q bs, RtS m ds1 ds2 t q ∧ bs ∈ allB m ∧ ¬ ob ds1 o1 q.1 bs = ob ds2 o2 q.2 bs
theorem rtS_swap {m : Nat} {ds1 ds2 : List Deed} : ∀ {t : Nat} {q : PC}, RtS m ds1 ds2 t q → RtS m ds2 ds1 t (q.2, q.1)
  | 0, q, h => by
    have h' : q = _ := h
    rw [h']
    rfl
  | t + 1, q, ⟨q0, bs, h, hb, e⟩ => ⟨(q0.2, q0.1), bs, rtS_swap h, hb, by rw [e]; rfl⟩
theorem prtS_swap {m : Nat} {ds1 ds2 : List Deed} {o1 o2 : Int} {t : Nat} (h : PrtS m ds1 o1 ds2 o2 t) : PrtS m ds2 o2 ds1 o1 t := by
  obtain ⟨q, bs, h1, h2, h3⟩ := h
  exact ⟨(q.2, q.1), bs, rtS_swap h1, h2, fun z => h3 z.symm⟩
/-! ### alike rows have one least machine, others don't -/
def KdS (cs : List (List Int)) (ns : List Nat) (c : List Int) (k : Nat) : Prop := ∃ i : Nat, cs[i]? = some c ∧ ns[i]? = some k
structure Mch (m : Nat) (ds : List Deed) (o : Int) (cs : List (List Int)) (mac : List MRow) (ns : List Nat) (lm : List MRow) : Prop where
  wm : WM m ds o cs mac
  hl : mac.length = cs.length
  kk : KOk mac ns
  li : LInv mac ns lm ns.length
theorem awLeft {α β γ : Type} {F : γ → β → Prop} {g : α → γ} : ∀ {l : List α} {l2 : List β}, Paired (fun a b => F (g a) b) l l2 → Paired F (l.map g) l2
  | _, _, .nil => .nil
  | _, _, .cons h t => .cons h (awLeft t)
section canon
variable {m : Nat} {ds ds1 ds2 : List Deed} {o o1 o2 : Int} {cs cs1 cs2 : List (List Int)} {mac mac1 mac2 : List MRow} {ns ns1 ns2 : List Nat} {lm lm1 lm2 : List MRow}
theorem Mch.uniq (M : Mch m ds o cs mac ns lm) {c : List Int} {k k' : Nat} (h : KdS cs ns c k) (h' : KdS cs ns c k') : k = k' := by
  obtain ⟨i, a, b⟩ := h
  obtain ⟨j, a', b'⟩ := h'
  rw [nd_idx M.wm.nd a a', b'] at b
  exact (Option.some.inj b).symm
theorem Mch.ex (M : Mch m ds o cs mac ns lm) {c : List Int} (h : c ∈ cs) : ∃ k, KdS cs ns c k := by
  obtain ⟨i, hi⟩ := List.mem_iff_getElem?.mp h
  have hl := M.hl
  have kl := M.kk.len
  have il := (List.getElem?_eq_some_iff.mp hi).1
  exact ⟨ns[i]'(by omega), i, hi, List.getElem?_eq_getElem (by omega)⟩
theorem Mch.first (M : Mch m ds o cs mac ns lm) : KdS cs ns (ds.map fcD) 0 := by
  have hl := M.hl
  have kl := M.kk.len
  have pos := (List.getElem?_eq_some_iff.mp M.wm.first).1
  refine ⟨0, M.wm.first, ?_⟩
  have h0 : ns[0]? = some (ns[0]'(by omega)) := List.getElem?_eq_getElem (by omega)
  have := rg_le M.kk.rg _ _ h0
  rw [h0]
  congr 1
  omega
theorem Mch.row (M : Mch m ds o cs mac ns lm) {c : List Int} {k : Nat} (h : KdS cs ns c k) : Paired (fun (e : Int × Nat) (s : Int × List Int) => e.1 = s.1 ∧ KdS cs ns s.2 e.2) (nxK mac ns k) (stp m ds o c) := by
  obtain ⟨i, a, b⟩ := h
  have hl := M.hl
  have kl := M.kk.len
  have il := (List.getElem?_eq_some_iff.mp a).1
  have er : mac[i]? = some (mac[i]'(by omega)) := List.getElem?_eq_getElem (by omega)
  rw [nxK_at M.kk b er]
  obtain ⟨c', w1, w2⟩ := M.wm.each i _ er
  rw [a] at w1
  obtain rfl := Option.some.inj w1
  refine awLeft (awMap (fun e s z => ?_) w2)
  obtain ⟨z1, j, z2, z3⟩ := z
  have jl := (List.getElem?_eq_some_iff.mp z3).1
  refine ⟨z1, j, z3, ?_⟩
  show ns[j]? = some (ns.getD e.2.toNat 0)
  rw [z2, Int.toNat_natCast, List.getD_eq_getElem?_getD, List.getElem?_eq_getElem (show j < ns.length by omega)]
  rfl
theorem Mch.lt (M : Mch m ds o cs mac ns lm) {c : List Int} {k : Nat} (h : KdS cs ns c k) : k < lm.length := by
  obtain ⟨i, a, b⟩ := h
  exact (linv_mem M.li k).mpr (List.mem_of_getElem? b)
theorem Mch.surj (M : Mch m ds o cs mac ns lm) {k : Nat} (h : k < lm.length) : ∃ c, c ∈ cs ∧ KdS cs ns c k := by
  obtain ⟨i, hi⟩ := List.mem_iff_getElem?.mp ((linv_mem M.li k).mp h)
  have hl := M.hl
  have kl := M.kk.len
  have il := (List.getElem?_eq_some_iff.mp hi).1
  exact ⟨cs[i]'(by omega), List.getElem_mem _, i, List.getElem?_eq_getElem (by omega), hi⟩
theorem Mch.pos (M : Mch m ds o cs mac ns lm) : 0 < lm.length := M.lt M.first
theorem Mch.at (M : Mch m ds o cs mac ns lm) {c bs : List Int} {k t : Nat} (h : KdS cs ns c k) (ht : (allB m)[t]? = some bs) : ∃ k', (nxK mac ns k)[t]? = some (ob ds o c bs, k') ∧ KdS cs ns (nc ds c bs) k' := by
  have es : (stp m ds o c)[t]? = some (ob ds o c bs, nc ds c bs) := by
    unfold stp
    rw [List.getElem?_map, ht]
    rfl
  obtain ⟨⟨b, k'⟩, e1, e2, e3⟩ := awGet2 (M.row h) es
  have e2' : b = ob ds o c bs := e2
  exact ⟨k', by rw [e1, e2'], e3⟩
theorem Mch.len (M : Mch m ds o cs mac ns lm) {c : List Int} {k : Nat} (h : KdS cs ns c k) : (nxK mac ns k).length = (allB m).length := by
  rw [awLen (M.row h)]
  exact List.length_map ..
abbrev Rc (m : Nat) (ds1 ds2 : List Deed) (q : PC) : Prop := ∃ t, RtS m ds1 ds2 t q
theorem rc_first : Rc m ds1 ds2 (ds1.map fcD, ds2.map fcD) := ⟨0, rfl⟩
theorem rc_next {q : PC} {bs : List Int} (h : Rc m ds1 ds2 q) (hb : bs ∈ allB m) : Rc m ds1 ds2 (nc ds1 q.1 bs, nc ds2 q.2 bs) := by
  obtain ⟨t, h⟩ := h
  exact ⟨t + 1, q, bs, h, hb, rfl⟩
theorem rc_swap {q : PC} (h : Rc m ds1 ds2 q) : Rc m ds2 ds1 (q.2, q.1) := by
  obtain ⟨t, h⟩ := h
  exact ⟨t, rtS_swap h⟩
theorem rc_bits (nv : ∀ t, ¬ PrtS m ds1 o1 ds2 o2 t) {q : PC} {bs : List Int} (h : Rc m ds1 ds2 q) (hb : bs ∈ allB m) : ob ds1 o1 q.1 bs = ob ds2 o2 q.2 bs := by
  obtain ⟨t, h⟩ := h
  false_or_by_contra
  rename_i ne
  exact nv t ⟨q, bs, h, hb, ne⟩
/-- each carry comes, with another one beside it -/
theorem Mch.beside (M : Mch m ds2 o2 cs mac ns lm) {c : List Int} (h : c ∈ cs) : ∃ c1, Rc m ds1 ds2 (c1, c) := by
  obtain ⟨i, hi⟩ := List.mem_iff_getElem?.mp h
  have key : ∀ n : Nat, ∀ i c, i ≤ n → cs[i]? = some c → ∃ c1, Rc m ds1 ds2 (c1, c) := by
    intro n
    induction n with
    | zero =>
      intro i c hi e
      obtain rfl : i = 0 := by omega
      rw [M.wm.first] at e
      obtain rfl := Option.some.inj e
      exact ⟨ds1.map fcD, rc_first⟩
    | succ n ih =>
      intro i c hi e
      by_cases h0 : i = 0
      · subst h0
        rw [M.wm.first] at e
        obtain rfl := Option.some.inj e
        exact ⟨ds1.map fcD, rc_first⟩
      · obtain ⟨p, t, a, s, hp, ha, hs, rfl, _⟩ := M.wm.fo i c (by omega) e
        obtain ⟨c1, r⟩ := ih p a (by omega) ha
        unfold stp at hs
        rw [List.getElem?_map] at hs
        obtain ⟨bs, hb, rfl⟩ := Option.map_eq_some_iff.mp hs
        exact ⟨nc ds1 c1 bs, rc_next (q := (c1, a)) r (List.mem_of_getElem? hb)⟩
  exact key i i c (Nat.le_refl i) hi
theorem Mch.mem1 (M : Mch m ds1 o1 cs mac ns lm) {q : PC} (h : Rc m ds1 ds2 q) : ∃ k, KdS cs ns q.1 k := by
  obtain ⟨t, h⟩ := h
  induction t generalizing q with
  | zero =>
    have h' : q = _ := h
    rw [h']
    exact ⟨0, M.first⟩
  | succ t ih =>
    obtain ⟨q0, bs, h0, hb, rfl⟩ := h
    obtain ⟨k, hk⟩ := ih h0
    obtain ⟨j, hj⟩ := List.mem_iff_getElem?.mp hb
    obtain ⟨k', _, e⟩ := M.at hk hj
    exact ⟨k', e⟩
theorem Mch.mem2 (M : Mch m ds2 o2 cs mac ns lm) {q : PC} (h : Rc m ds1 ds2 q) : ∃ k, KdS cs ns q.2 k := M.mem1 (rc_swap h)
/-- kinds of the one tell kinds of the other -/
theorem Mch.wd (M1 : Mch m ds1 o1 cs1 mac1 ns1 lm1) (M2 : Mch m ds2 o2 cs2 mac2 ns2 lm2) (nv : ∀ t, ¬ PrtS m ds1 o1 ds2 o2 t) {q q' : PC} {j k k' : Nat} (h : Rc m ds1 ds2 q) (h' : Rc m ds1 ds2 q') (a : KdS cs2 ns2 q.2 j) (a' : KdS cs2 ns2 q'.2 j)
    (b : KdS cs1 ns1 q.1 k) (b' : KdS cs1 ns1 q'.1 k') : k = k' := by
  obtain ⟨i, b1, b2⟩ := b
  obtain ⟨i', b1', b2'⟩ := b'
  have hl := M1.hl
  have e := M1.kk.crs (fun x y => ∃ (q q' : PC) (j : Nat), Rc m ds1 ds2 q ∧ Rc m ds1 ds2 q' ∧ KdS cs2 ns2 q.2 j ∧ KdS cs2 ns2 q'.2 j ∧ cs1[x]? = some q.1 ∧ cs1[y]? = some q'.1) (fun x y hxy => ?_) i i' ⟨q, q', j, h, h', a, a', b1, b1'⟩
  · rw [b2, b2'] at e
    exact Option.some.inj e
  · obtain ⟨q, q', j, h, h', a, a', c1, c1'⟩ := hxy
    have xl := (List.getElem?_eq_some_iff.mp c1).1
    have yl := (List.getElem?_eq_some_iff.mp c1').1
    have er : mac1[x]? = some (mac1[x]'(by omega)) := List.getElem?_eq_getElem (by omega)
    have er' : mac1[y]? = some (mac1[y]'(by omega)) := List.getElem?_eq_getElem (by omega)
    obtain ⟨c, w1, w2⟩ := M1.wm.each x _ er
    rw [c1] at w1
    obtain rfl := Option.some.inj w1
    obtain ⟨c', w1', w2'⟩ := M1.wm.each y _ er'
    rw [c1'] at w1'
    obtain rfl := Option.some.inj w1'
    refine ⟨_, _, er, er', paired_of (by rw [awLen w2, awLen w2']; unfold stp; rw [List.length_map, List.length_map]) fun t e e' he he' => ?_⟩
    obtain ⟨s, s1, s2, u, s3, s4⟩ := awGet w2 he
    obtain ⟨s', s1', s2', u', s3', s4'⟩ := awGet w2' he'
    unfold stp at s1 s1'
    rw [List.getElem?_map] at s1 s1'
    obtain ⟨bs, hb, rfl⟩ := Option.map_eq_some_iff.mp s1
    rw [hb] at s1'
    obtain rfl := Option.some.inj s1'
    have bm := List.mem_of_getElem? hb
    obtain ⟨k1, g1, g2⟩ := M2.at a hb
    obtain ⟨k2, g1', g2'⟩ := M2.at a' hb
    rw [g1] at g1'
    have gg := Option.some.inj g1'
    obtain ⟨gb, rfl⟩ := Prod.mk.inj gg
    refine ⟨?_, (nc ds1 q.1 bs, nc ds2 q.2 bs), (nc ds1 q'.1 bs, nc ds2 q'.2 bs), k1, rc_next h bm, rc_next h' bm, g2, g2', ?_, ?_⟩
    · rw [s2, s2']
      exact (rc_bits nv h bm).trans (gb.trans (rc_bits nv h' bm).symm)
    · rw [s3, Int.toNat_natCast]
      exact s4
    · rw [s3', Int.toNat_natCast]
      exact s4'
theorem ford_map {L L' : Type} {nx : L → List (Int × L)} {nx' : L' → List (Int × L')} {f : L → L'} {cs : List L} (h : FOrd nx cs) (e : ∀ a ∈ cs, nx' (f a) = (nx a).map fun s => (s.1, f s.2)) : FOrd nx' (cs.map f) := by
  intro k c hk hc
  rw [List.getElem?_map] at hc
  obtain ⟨c0, hc0, rfl⟩ := Option.map_eq_some_iff.mp hc
  obtain ⟨p, t, a, s, hp, ha, hs, rfl, hmin⟩ := h k c0 hk hc0
  refine ⟨p, t, f a, (s.1, f s.2), hp, by rw [List.getElem?_map, ha]; rfl, ?_, rfl, fun p' t' a' s' hlt ha' hs' => ?_⟩
  · rw [e a (List.mem_of_getElem? ha), List.getElem?_map, hs]
    rfl
  · rw [List.getElem?_map] at ha'
    obtain ⟨a0, h0, rfl⟩ := Option.map_eq_some_iff.mp ha'
    rw [e a0 (List.mem_of_getElem? h0), List.getElem?_map] at hs'
    obtain ⟨s0, g0, rfl⟩ := Option.map_eq_some_iff.mp hs'
    obtain ⟨j, j1, j2⟩ := hmin p' t' a0 s0 hlt h0 g0
    exact ⟨j, j1, by rw [List.getElem?_map, j2]; rfl⟩
/-- alike rows have one least machine -/
theorem Mch.one (M1 : Mch m ds1 o1 cs1 mac1 ns1 lm1) (M2 : Mch m ds2 o2 cs2 mac2 ns2 lm2) (nv : ∀ t, ¬ PrtS m ds1 o1 ds2 o2 t) : lm1 = lm2 := by
  have nv' : ∀ t, ¬ PrtS m ds2 o2 ds1 o1 t := fun t h => nv t (prtS_swap h)
  have tot : ∀ j, ∃ k, j < lm2.length → ∃ q, Rc m ds1 ds2 q ∧ KdS cs2 ns2 q.2 j ∧ KdS cs1 ns1 q.1 k := fun j => by
    by_cases hj : j < lm2.length
    · obtain ⟨c2, hc, hk⟩ := M2.surj hj
      obtain ⟨c1, r⟩ := M2.beside (ds1 := ds1) hc
      obtain ⟨k, hk1⟩ := M1.mem1 r
      exact ⟨k, fun _ => ⟨_, r, hk, hk1⟩⟩
    · exact ⟨0, fun z => absurd z hj⟩
  obtain ⟨f, hf⟩ : ∃ f : Nat → Nat, ∀ j, j < lm2.length → ∃ q, Rc m ds1 ds2 q ∧ KdS cs2 ns2 q.2 j ∧ KdS cs1 ns1 q.1 (f j) := ⟨fun j => (tot j).choose, fun j => (tot j).choose_spec⟩
  have fun1 : ∀ {q : PC} {j k : Nat}, Rc m ds1 ds2 q → KdS cs2 ns2 q.2 j → KdS cs1 ns1 q.1 k → k = f j := fun r a b => by
    obtain ⟨q', r', a', b'⟩ := hf _ (M2.lt a)
    exact M1.wd M2 nv r r' a a' b b'
  have inj : ∀ j j', j < lm2.length → j' < lm2.length → f j = f j' → j = j' := fun j j' hj hj' e => by
    obtain ⟨q, r, a, b⟩ := hf j hj
    obtain ⟨q', r', a', b'⟩ := hf j' hj'
    rw [← e] at b'
    exact M2.wd M1 nv' (rc_swap r) (rc_swap r') b b' a a'
  have row : ∀ j, j < lm2.length → nxK mac1 ns1 (f j) = (nxK mac2 ns2 j).map fun s => (s.1, f s.2) := fun j hj => by
    obtain ⟨q, r, a, b⟩ := hf j hj
    have l1 := M1.len b
    have l2 := M2.len a
    refine List.ext_getElem? fun t => ?_
    rw [List.getElem?_map]
    cases ht : (allB m)[t]? with
    | none =>
      have tl := List.getElem?_eq_none_iff.mp ht
      rw [List.getElem?_eq_none (by omega), List.getElem?_eq_none (by omega)]
      rfl
    | some bs =>
      have bm := List.mem_of_getElem? ht
      obtain ⟨k1, g1, g2⟩ := M1.at b ht
      obtain ⟨k2, g1', g2'⟩ := M2.at a ht
      rw [g1, g1', fun1 (rc_next r bm) g2' g2, rc_bits nv r bm]
      rfl
  have f0 : f 0 = 0 := (fun1 rc_first M2.first M1.first).symm
  have p1 := M1.pos
  have p2 := M2.pos
  have ndf : ((List.range lm2.length).map f).Nodup := by
    rw [List.nodup_iff_pairwise_ne, List.pairwise_map]
    refine List.Pairwise.imp_of_mem (fun {a b} ha hb ne z => ne (inj a b (List.mem_range.mp ha) (List.mem_range.mp hb) z)) (List.nodup_iff_pairwise_ne.mp List.nodup_range)
  have clo : ∀ {ds : List Deed} {o : Int} {cs : List (List Int)} {mac : List MRow} {ns : List Nat} {lm : List MRow}, Mch m ds o cs mac ns lm → ∀ a, a < lm.length → ∀ s ∈ nxK mac ns a, s.2 < lm.length := fun M a ha s hs => by
    obtain ⟨c, _, hk⟩ := M.surj ha
    obtain ⟨t, ht⟩ := List.mem_iff_getElem?.mp hs
    obtain ⟨s', _, _, e⟩ := awGet (M.row hk) ht
    exact M.lt e
  have eq := ford_eq List.nodup_range ndf (by rw [List.getElem?_map, List.getElem?_range p1, List.getElem?_range p2, Option.map_some, f0]) (ford_kinds M1.wm M1.hl M1.kk (linv_mem M1.li)) (ford_map (ford_kinds M2.wm M2.hl M2.kk (linv_mem M2.li)) fun a ha => row a (List.mem_range.mp ha))
    (fun a ha s hs => List.mem_range.mpr (clo M1 a (List.mem_range.mp ha) s hs))
    (fun a ha s hs => by
      obtain ⟨j, hj, rfl⟩ := List.mem_map.mp ha
      rw [row j (List.mem_range.mp hj)] at hs
      obtain ⟨s0, h0, rfl⟩ := List.mem_map.mp hs
      exact List.mem_map.mpr ⟨s0.2, List.mem_range.mpr (clo M2 j (List.mem_range.mp hj) s0 h0), rfl⟩)
    (by rwa [List.length_range]) (by rwa [List.length_map, List.length_range])
  have len : lm1.length = lm2.length := by
    have := congrArg List.length eq
    rwa [List.length_range, List.length_map, List.length_range] at this
  have idf : ∀ j, j < lm2.length → f j = j := fun j hj => by
    have h1 : ((List.range lm2.length).map f)[j]? = some (f j) := by rw [List.getElem?_map, List.getElem?_range hj]; rfl
    rw [← eq, List.getElem?_range (by omega)] at h1
    exact (Option.some.inj h1).symm
  refine List.ext_getElem len fun k h1 h2 => ?_
  rw [linv_row M1.li M1.kk (List.getElem?_eq_getElem h1), linv_row M2.li M2.kk (List.getElem?_eq_getElem h2)]
  have rk := row k h2
  rw [idf k h2] at rk
  rw [rk, List.map_map]
  refine List.map_congr_left fun s hs => ?_
  show (s.1, ((f s.2 : Nat) : Int)) = (s.1, (s.2 : Int))
  rw [idf s.2 (clo M2 k h2 s hs)]
/-- rows with one least machine are alike -/
theorem Mch.alike (M1 : Mch m ds1 o1 cs1 mac1 ns1 lm) (M2 : Mch m ds2 o2 cs2 mac2 ns2 lm) (t : Nat) : ¬ PrtS m ds1 o1 ds2 o2 t := by
  have eqk : ∀ k, k < lm.length → nxK mac1 ns1 k = nxK mac2 ns2 k := fun k hk => by
    have e1 := linv_row M1.li M1.kk (List.getElem?_eq_getElem hk)
    have e2 := linv_row M2.li M2.kk (List.getElem?_eq_getElem hk)
    rw [e1] at e2
    refine List.ext_getElem? fun i => ?_
    have e3 := congrArg (fun l : MRow => l[i]?) e2
    simp only [List.getElem?_map] at e3
    cases h1 : (nxK mac1 ns1 k)[i]? with
    | none =>
      rw [h1] at e3
      cases h2 : (nxK mac2 ns2 k)[i]? with
      | none => rfl
      | some y => rw [h2] at e3; cases e3
    | some x =>
      rw [h1] at e3
      cases h2 : (nxK mac2 ns2 k)[i]? with
      | none => rw [h2] at e3; cases e3
      | some y =>
        rw [h2] at e3
        have e4 := Prod.mk.inj (Option.some.inj e3)
        exact congrArg some (Prod.ext e4.1 (Int.ofNat.inj e4.2))
  have both : ∀ t q, RtS m ds1 ds2 t q → ∃ k, KdS cs1 ns1 q.1 k ∧ KdS cs2 ns2 q.2 k := by
    intro t
    induction t with
    | zero =>
      intro q h
      have h' : q = _ := h
      rw [h']
      exact ⟨0, M1.first, M2.first⟩
    | succ t ih =>
      rintro q ⟨q0, bs, h0, hb, rfl⟩
      obtain ⟨k, a, b⟩ := ih q0 h0
      obtain ⟨j, hj⟩ := List.mem_iff_getElem?.mp hb
      obtain ⟨k1, g1, g2⟩ := M1.at a hj
      obtain ⟨k2, g1', g2'⟩ := M2.at b hj
      rw [eqk k (M1.lt a), g1'] at g1
      obtain ⟨_, rfl⟩ := Prod.mk.inj (Option.some.inj g1)
      exact ⟨k2, g2, g2'⟩
  rintro ⟨q, bs, hq, hb, ne⟩
  obtain ⟨k, a, b⟩ := both t q hq
  obtain ⟨j, hj⟩ := List.mem_iff_getElem?.mp hb
  obtain ⟨k1, g1, g2⟩ := M1.at a hj
  obtain ⟨k2, g1', g2'⟩ := M2.at b hj
  rw [eqk k (M1.lt a), g1'] at g1
  exact ne (Prod.mk.inj (Option.some.inj g1)).1.symm
theorem lm_mch (h : LmOk m ds o lm) : ∃ cs mac ns, Mch m ds o cs mac ns lm := by
  obtain ⟨cs, mac, ns, a, b, c, d⟩ := h.src
  exact ⟨cs, mac, ns, a, b, c, d⟩
theorem lm_eq (h1 : LmOk m ds1 o1 lm1) (h2 : LmOk m ds2 o2 lm2) : lm1 = lm2 ↔ ∀ t, ¬ PrtS m ds1 o1 ds2 o2 t := by
  obtain ⟨_, _, _, M1⟩ := lm_mch h1
  obtain ⟨_, _, _, M2⟩ := lm_mch h2
  constructor
  · intro e
    subst e
    exact fun t => M1.alike M2 t
  · exact fun nv => M1.one M2 nv
end canon
/-! ### lists of carries as data (of sec_pdat and sec_cdat, without pairs) -/
def cD (c : List Int) : PyData := .tuple (c.map PyData.int)
theorem eqvI' : ∀ {l k : List Int}, PyData.eqvAll (l.map PyData.int) (k.map PyData.int) = true → l = k
  | [], [], _ => rfl
  | [], _ :: _, h => by simp [PyData.eqvAll] at h
  | _ :: _, [], h => by simp [PyData.eqvAll] at h
  | x :: l, y :: k, h => by
    simp only [List.map_cons, PyData.eqvAll, Bool.and_eq_true] at h
    have h1 : x = y := by simpa [PyData.eqv] using h.1
    rw [h1, eqvI' h.2]
theorem lay_cD (c : List Int) : (cD c).canLay0 = true ∧ (cD c).depth = 1 := by
  obtain ⟨h1, h2⟩ := lay_ints c
  unfold cD
  simp only [PyData.canLay0, PyData.depth, h1, h2]
  simp
theorem dp_cD {H : Hp} {a : Addr} {c : List Int} (h : H a = some (.tup (c.map V.int))) : Dp K H (.ref a) (cD c) := .tup (SqT.of h) (dp_ints c)
theorem shaped_cD (c : List Int) : SeqAt.shaped (cD c) = true := by
  obtain ⟨a1, a2⟩ := lay_cD c
  unfold SeqAt.shaped
  rw [a1, a2]
  rfl
theorem lay_cDs : ∀ l : List (List Int), PyData.canLayAll0 (l.map cD) = true ∧ PyData.depthAll (l.map cD) ≤ 1
  | [] => ⟨by simp only [List.map_nil, PyData.canLayAll0], by simp only [List.map_nil, PyData.depthAll]; decide⟩
  | q :: l => by
    obtain ⟨a1, a2⟩ := lay_cD q
    obtain ⟨b1, b2⟩ := lay_cDs l
    exact ⟨by simp only [List.map_cons, PyData.canLayAll0, a1, b1, Bool.and_self], by simp only [List.map_cons, PyData.depthAll, a2]; omega⟩
theorem shaped_cDs (l : List (List Int)) : SeqAt.shaped (.list (l.map cD)) = true := by
  obtain ⟨a1, a2⟩ := lay_cDs l
  unfold SeqAt.shaped
  simp only [PyData.canLay0, PyData.depth, a1, Bool.true_and]
  exact decide_eq_true (by omega)
theorem eqv_cD (p q : List Int) : PyData.eqv (cD p) (cD q) = decide (p = q) := by
  by_cases h : p = q
  · subst h
    rw [decide_eq_true rfl]
    exact SeqAt.eqv_refl _ (SeqAt.canLay_of_shaped (shaped_cD p))
  · rw [decide_eq_false h]
    cases e : PyData.eqv (cD p) (cD q) with
    | false => rfl
    | true =>
      exfalso
      unfold cD at e
      simp only [PyData.eqv] at e
      exact h (eqvI' e)
theorem any_cD (q : List Int) : ∀ l : List (List Int), ((l.map cD).any fun z => PyData.eqv z (cD q)) = decide (q ∈ l)
  | [] => rfl
  | p :: l => by
    rw [List.map_cons, List.any_cons, eqv_cD, any_cD q l]
    by_cases h : p = q
    · subst h
      simp
    · have : ¬ q = p := fun z => h z.symm
      simp [h, this]
theorem dp_cDs {H : Hp} : ∀ {as : List Addr} {cs : List (List Int)}, TAt H as cs → DpAll K H (as.map V.ref) (cs.map cD)
  | _, _, .nil => .nil
  | _, _, .cons h t => .cons (dp_cD h) (dp_cDs t)
/-! ### the law's own bits and carries -/
def spLb (K : PySem.W.Frag) : Sp := fun vs H Q _ => ∃ (r L : Addr) (d : Deed) (told : List Int) (c : Int), vs = [.ref r, .int c, .ref L] ∧ H r = some (.tup (dV d)) ∧ SqL K H L (told.map V.int) ∧ DeedOk told.length d ∧ (∀ x ∈ told, Bit x) ∧ Bit c ∧ ∀ H', Same H H' → Q (.int (dbitAt d c told)) H'
theorem ok_lb {f : Addr} {fd : FuncData} {k : Nat} (F : Fun K "_law_bit" "_law_bit" s_law_bit f fd) (mi : mg "int" = none) (mx : mg "max" = none) : FnOk P w K mg base CX0 (k + 1) f fd ["deed", "carry", "bits"] (spLb K) := by
  refine F.ok sc_law_bit (fun vs H Q E h => ?_) (fun cdv A outer s H vs Q E hr h => ?_)
  · obtain ⟨r, L, d, told, c, rfl, _⟩ := h
    rfl
  · obtain ⟨r, L, d, told, c, rfl, er, eL, ok, tb, hc, q⟩ := h
    refine ⟨_, pss_cons (ps_set (i := 3) sc_law_bit.nd rfl (.inl rfl) (pe_ix ix_tup (pv 0) pe_int (fun _ _ => rfl)))
      (pss_cons (ps_if (pt_cmpR op_in_seq (pv 3) (pe_tup (pa_cons pe_str (pa_cons pe_str (pa_cons pe_str (pa_cons pe_str pa_nil))))) (by rfl)) (pss_one (ps_ret (pe_dget (hu_of hr) (pe_disp (pps_cons pe_str pe_int (pps_cons pe_str (pv 1) (pps_cons pe_str pe_int (pps_cons pe_str (pv 1) pps_nil)))) (by rfl) (by rfl) (fun z => by cases z) (by decide)) (pv 3) (fun _ _ => rfl)))) pss_nil)
      (pss_cons (ps_set (i := 4) sc_law_bit.nd rfl (.inl rfl) (pe_ix ix_list (pv 2) (pe_ix ix_tup (pv 0) pe_int (fun _ _ => rfl)) (fun _ _ => rfl)))
      (pss_cons (ps_if (pt_cmpR op_in_seq (pv 3) (pe_tup (pa_cons pe_str (pa_cons pe_str pa_nil))) (by rfl)) (pss_one (ps_ret (pe_ifExp (pt_cmpR op_eq (pv 3) pe_str (nomark _)) (pe_callTy call_int1 (by rfl) mi (by decide +kernel) (pa_cons (pe_cmpR op_eq (pv 4) pe_int (nomark _)) pa_nil)) (pe_callTy call_int1 (by rfl) mi (by decide +kernel) (pa_cons (pe_cmpR op_ne (pe_cmpR op_eq (pv 4) pe_int (nomark _)) (pe_cmpR op_eq (pv 1) pe_int (nomark _)) (nomark _)) pa_nil))))) pss_nil)
      (pss_cons (ps_set (i := 5) sc_law_bit.nd rfl (.inl rfl) (pe_ix ix_list (pv 2) (pe_ix ix_tup (pv 0) pe_int (fun _ _ => rfl)) (fun _ _ => rfl)))
      (pss_cons (ps_if (pt_cmpR op_in_seq (pv 3) (pe_tup (pa_cons pe_str (pa_cons pe_str (pa_cons pe_str pa_nil)))) (by rfl)) (pss_one (ps_ret (pe_dget (hu_of hr) (pe_disp (pps_cons pe_str (pe_op op_mul (pv 4) (pv 5)) (pps_cons pe_str (pe_callB (call_max2 rfl) (by rfl) mx (by decide +kernel) (pa_cons (pv 4) (pa_cons (pv 5) pa_nil))) (pps_cons pe_str (pe_callTy call_int1 (by rfl) mi (by decide +kernel) (pa_cons (pe_cmpR op_ne (pv 4) (pv 5) (nomark _)) pa_nil)) pps_nil))) (by rfl) (by rfl) (fun z => by cases z) (by decide)) (pv 3) (fun _ _ => rfl)))) pss_nil)
      (pss_one (ps_ret (pe_op op_mod (pe_op op_add (pe_op op_add (pv 4) (pv 5)) (pv 1)) pe_int)))))))), ?_⟩
    refine ⟨.ref r, rfl, r, _, 0, .str d.1, rfl, rfl, SqT.of er, dv0 d, ?_⟩
    have bA := argAt_bit tb d 0
    have bB := argAt_bit tb d 1
    unfold dbitAt at q
    refine ⟨.str d.1, rfl, by show 4 ≤ sizeLine; decide, fun T hT => ?_⟩
    have sT := same_new (o := .tup [.str "none", .str "one", .str "all", .str "twice"]) hT
    refine ⟨T, _, rfl, .inr (SqT.of upd_same), rfl, rfl, _, rfl, ite2 (fun e => ?_) (fun e => ?_)⟩
    · have hm : d.1 ∈ (["none", "one", "all", "twice"] : List Str) := of_decide_eq_true ((inS d.1 ["none", "one", "all", "twice"]).symm.trans e)
      intro p hp
      refine ⟨.int c, rfl, .int c, rfl, upd_same, [(Sum.inr "none", .int 0), (Sum.inr "one", .int c), (Sum.inr "all", .int 1), (Sum.inr "twice", .int c)], rfl, (by show 4 ≤ 15; decide), .str d.1, rfl, p, ?_⟩
      rw [upd_upd]
      have q1 := q _ (sT.trans (same_new (o := .dK (mergeK [] [(Sum.inr "none", .int 0), (Sum.inr "one", .int c), (Sum.inr "all", .int 1), (Sum.inr "twice", .int c)])) hp))
      simp only [List.mem_cons, List.not_mem_nil, or_false] at hm
      rcases hm with hm | hm | hm | hm <;> rw [hm] at q1 ⊢
      · exact ⟨.int 0, rfl, dget_at (k := Sum.inr "none") upd_same rfl, q1⟩
      · exact ⟨.int c, rfl, dget_at (k := Sum.inr "one") upd_same rfl, q1⟩
      · exact ⟨.int 1, rfl, dget_at (k := Sum.inr "all") upd_same rfl, q1⟩
      · exact ⟨.int c, rfl, dget_at (k := Sum.inr "twice") upd_same rfl, q1⟩
    have hn : ¬ d.1 ∈ (["none", "one", "all", "twice"] : List Str) := fun z => e ((inS d.1 ["none", "one", "all", "twice"]).trans (decide_eq_true z))
    simp only [List.mem_cons, List.not_mem_nil, or_false, not_or] at hn
    obtain ⟨n1, n2, n3, n4⟩ := hn
    obtain ⟨i, hi, ai, ei⟩ := arg1 ok n1 n2 n3
    have er2 := sT _ _ er
    have eL2 := sT.seq eL
    refine ⟨.ref L, rfl, .ref r, rfl, r, _, 1, .int i, rfl, rfl, SqT.of er2, dvN (k := 0) hi, L, _, i, .int (argAt d told 0), rfl, rfl, eL2, ei, ?_⟩
    refine ⟨.str d.1, rfl, by show 2 ≤ sizeLine; decide, fun U hU => ?_⟩
    have sU := sT.trans (same_new (o := .tup [.str "not", .str "neg"]) hU)
    refine ⟨U, _, rfl, .inr (SqT.of upd_same), rfl, rfl, _, rfl, ite2 (fun e => ?_) (fun e => ?_)⟩
    · have hm : d.1 ∈ (["not", "neg"] : List Str) := of_decide_eq_true ((inS d.1 ["not", "neg"]).symm.trans e)
      have q1 := q _ sU
      generalize argAt d told 0 = a at q1 bA
      generalize argAt d told 1 = b at q1 bB
      simp only [List.mem_cons, List.not_mem_nil, or_false] at hm
      rcases hm with hm | hm <;> rw [hm] at q1 ⊢
      · refine ⟨.str "not", rfl, rfl, _, rfl, .int a, rfl, rfl, .inr ⟨_, rfl, ?_⟩⟩
        rcases bA with rfl | rfl
        · exact q1
        · exact q1
      · refine ⟨.str "neg", rfl, rfl, _, rfl, .int a, rfl, rfl, .int c, rfl, rfl, rfl, .inr ⟨_, rfl, ?_⟩⟩
        rcases bA with rfl | rfl <;> rcases hc with rfl | rfl <;> exact q1
    have hn2 : ¬ d.1 ∈ (["not", "neg"] : List Str) := fun z => e ((inS d.1 ["not", "neg"]).trans (decide_eq_true z))
    simp only [List.mem_cons, List.not_mem_nil, or_false, not_or] at hn2
    obtain ⟨n5, n6⟩ := hn2
    obtain ⟨j, hj, aj, ej⟩ := arg2 ok n1 n2 n3 n5 n6 n4
    have er3 := sU _ _ er
    have eL3 := sU.seq eL
    refine ⟨.ref L, rfl, .ref r, rfl, r, _, 2, .int j, rfl, rfl, SqT.of er3, dvN (k := 1) hj, L, _, j, .int (argAt d told 1), rfl, rfl, eL3, ej, ?_⟩
    refine ⟨.str d.1, rfl, by show 3 ≤ sizeLine; decide, fun W hW => ?_⟩
    have sW := sU.trans (same_new (o := .tup [.str "and", .str "or", .str "xor"]) hW)
    have qa := fun H' s' => q H' s'
    generalize argAt d told 0 = a at qa bA
    generalize argAt d told 1 = b at qa bB
    refine ⟨W, _, rfl, .inr (SqT.of upd_same), rfl, rfl, _, rfl, ite2 (fun e => ?_) (fun e => ?_)⟩
    · have hm : d.1 ∈ (["and", "or", "xor"] : List Str) := of_decide_eq_true ((inS d.1 ["and", "or", "xor"]).symm.trans e)
      intro p hp
      have hab : CMul a b := .inl (by rcases bA with rfl | rfl <;> exact ⟨by decide, by decide⟩)
      refine ⟨.int a, rfl, .int b, rfl, a, b, rfl, rfl, hab, .int a, rfl, .int b, rfl, a, b, rfl, .int a, rfl, .int b, rfl, rfl, .inr ⟨_, rfl, upd_same, [(Sum.inr "and", .int (a * b)), (Sum.inr "or", .int (if b > a then b else a)), (Sum.inr "xor", _)], rfl, (by show 3 ≤ 15; decide), .str d.1, rfl, p, ?_⟩⟩
      rw [upd_upd]
      have q1 := fun o => qa _ (sW.trans (same_new (o := o) hp))
      simp only [List.mem_cons, List.not_mem_nil, or_false] at hm
      rcases hm with hm | hm | hm <;> rw [hm] at q1 ⊢
      · refine ⟨.int (a * b), rfl, dget_at (k := Sum.inr "and") upd_same rfl, ?_⟩
        rcases bA with rfl | rfl <;> rcases bB with rfl | rfl <;> exact q1 _
      · refine ⟨.int (if b > a then b else a), rfl, dget_at (k := Sum.inr "or") upd_same rfl, ?_⟩
        rcases bA with rfl | rfl <;> rcases bB with rfl | rfl <;> exact q1 _
      · refine ⟨_, rfl, dget_at (k := Sum.inr "xor") upd_same rfl, ?_⟩
        rcases bA with rfl | rfl <;> rcases bB with rfl | rfl <;> exact q1 _
    · have hn3 : ¬ d.1 ∈ (["and", "or", "xor"] : List Str) := fun z => e ((inS d.1 ["and", "or", "xor"]).trans (decide_eq_true z))
      simp only [List.mem_cons, List.not_mem_nil, or_false, not_or] at hn3
      obtain ⟨n7, n8, n9⟩ := hn3
      refine ⟨.int a, rfl, .int b, rfl, a, b, rfl, rfl, .int c, rfl, _, c, rfl, rfl, _, 2, rfl, rfl, (by show (0 : Int) < 2; decide), ?_⟩
      have q1 := qa _ sW
      unfold dbit at q1
      rw [if_neg n1, if_neg n3, if_neg n2, if_neg n4, if_neg n5, if_neg n6, if_neg n7, if_neg n8, if_neg n9] at q1
      rcases bA with rfl | rfl <;> rcases bB with rfl | rfl <;> rcases hc with rfl | rfl <;> exact q1
def spLc (K : PySem.W.Frag) : Sp := fun vs H Q _ => ∃ (r L : Addr) (d : Deed) (told : List Int) (c : Int), vs = [.ref r, .int c, .ref L] ∧ H r = some (.tup (dV d)) ∧ SqL K H L (told.map V.int) ∧ DeedOk told.length d ∧ (∀ x ∈ told, Bit x) ∧ Bit c ∧ Q (.int (dcarAt d c told)) H
theorem ok_lc {f : Addr} {fd : FuncData} {k : Nat} (F : Fun K "_law_carry" "_law_carry" s_law_carry f fd) (mi : mg "int" = none) : FnOk P w K mg base CX0 (k + 1) f fd ["deed", "carry", "bits"] (spLc K) := by
  refine F.ok sc_law_carry (fun vs H Q E h => ?_) (fun cdv A outer s H vs Q E hr h => ?_)
  · obtain ⟨r, L, d, told, c, rfl, _⟩ := h
    rfl
  · obtain ⟨r, L, d, told, c, rfl, er, eL, ok, tb, hc, q⟩ := h
    refine ⟨_, pss_cons (ps_set (i := 3) sc_law_carry.nd rfl (.inl rfl) (pe_ix ix_tup (pv 0) pe_int (fun _ _ => rfl)))
      (pss_cons (ps_if (pt_cmpR op_eq (pv 3) pe_str (nomark _)) (pss_one (ps_ret (pe_callTy call_int1 (by rfl) mi (by decide +kernel) (pa_cons (pe_and (pe_cmpR op_eq (pe_ix ix_list (pv 2) (pe_ix ix_tup (pv 0) pe_int (fun _ _ => rfl)) (fun _ _ => rfl)) pe_int (nomark _)) (pe_one (pe_cmpR op_eq (pv 1) pe_int (nomark _)))) pa_nil)))) pss_nil)
      (pss_cons (ps_if (pt_cmpR op_eq (pv 3) pe_str (nomark _)) (pss_one (ps_ret (pe_ix ix_list (pv 2) (pe_ix ix_tup (pv 0) pe_int (fun _ _ => rfl)) (fun _ _ => rfl)))) pss_nil)
      (pss_cons (ps_if (pt_cmpR op_eq (pv 3) pe_str (nomark _)) (pss_one (ps_ret (pe_op op_fdiv (pe_op op_add (pe_op op_add (pe_ix ix_list (pv 2) (pe_ix ix_tup (pv 0) pe_int (fun _ _ => rfl)) (fun _ _ => rfl)) (pe_ix ix_list (pv 2) (pe_ix ix_tup (pv 0) pe_int (fun _ _ => rfl)) (fun _ _ => rfl))) (pv 1)) pe_int))) pss_nil)
      (pss_cons (ps_if (pt_cmpR op_eq (pv 3) pe_str (nomark _)) (pss_one (ps_ret (pe_op op_fdiv (pe_op op_add (pe_op op_add (pe_op op_sub pe_int (pe_ix ix_list (pv 2) (pe_ix ix_tup (pv 0) pe_int (fun _ _ => rfl)) (fun _ _ => rfl))) (pe_ix ix_list (pv 2) (pe_ix ix_tup (pv 0) pe_int (fun _ _ => rfl)) (fun _ _ => rfl))) (pv 1)) pe_int))) pss_nil)
      (pss_one (ps_ret pe_int)))))), ?_⟩
    unfold dcarAt dcar at q
    have bA := argAt_bit tb d 0
    refine ⟨.ref r, rfl, r, _, 0, .str d.1, rfl, rfl, SqT.of er, dv0 d, ?_⟩
    refine ⟨.str d.1, rfl, rfl, _, rfl, ite2 (fun e => ?_) (fun n1 => ?_)⟩
    · rw [if_pos (strEq e)] at q
      have e2 := strEq e
      obtain ⟨i, hi, ai, ei⟩ := arg1 ok (by rw [e2]; decide +kernel) (by rw [e2]; decide +kernel) (by rw [e2]; decide +kernel)
      refine ⟨.ref L, rfl, .ref r, rfl, r, _, 1, .int i, rfl, rfl, SqT.of er, dvN (k := 0) hi, L, _, i, .int (argAt d told 0), rfl, rfl, eL, ei, rfl, _, rfl, ?_⟩
      generalize argAt d told 0 = a at q bA
      rcases bA with rfl | rfl
      · refine ⟨.int c, rfl, rfl, .inr ⟨_, rfl, ?_⟩⟩
        rcases hc with rfl | rfl
        · exact q
        · exact q
      · refine .inr ⟨_, rfl, ?_⟩
        rcases hc with rfl | rfl
        · exact q
        · exact q
    rw [if_neg (strNe n1)] at q
    refine ⟨.str d.1, rfl, rfl, _, rfl, ite2 (fun e => ?_) (fun n2 => ?_)⟩
    · rw [if_pos (strEq e)] at q
      have e2 := strEq e
      obtain ⟨i, hi, ai, ei⟩ := arg1 ok (by rw [e2]; decide +kernel) (by rw [e2]; decide +kernel) (by rw [e2]; decide +kernel)
      exact ⟨.ref L, rfl, .ref r, rfl, r, _, 1, .int i, rfl, rfl, SqT.of er, dvN (k := 0) hi, L, _, i, _, rfl, rfl, eL, ei, q⟩
    rw [if_neg (strNe n2)] at q
    refine ⟨.str d.1, rfl, rfl, _, rfl, ite2 (fun e => ?_) (fun n3 => ?_)⟩
    · rw [if_pos (strEq e)] at q
      have e2 := strEq e
      obtain ⟨i, hi, ai, ei⟩ := arg1 ok (by rw [e2]; decide +kernel) (by rw [e2]; decide +kernel) (by rw [e2]; decide +kernel)
      obtain ⟨j, hj, aj, ej⟩ := arg2 ok (by rw [e2]; decide +kernel) (by rw [e2]; decide +kernel) (by rw [e2]; decide +kernel) (by rw [e2]; decide +kernel) (by rw [e2]; decide +kernel) (by rw [e2]; decide +kernel)
      exact ⟨.ref L, rfl, .ref r, rfl, r, _, 1, .int i, rfl, rfl, SqT.of er, dvN (k := 0) hi, L, _, i, _, rfl, rfl, eL, ei, .ref L, rfl, .ref r, rfl, r, _, 2, .int j, rfl, rfl, SqT.of er, dvN (k := 1) hj, L, _, j, _, rfl, rfl, eL, ej, _, _, rfl, rfl, .int c, rfl, _, _, rfl, rfl, _, 2, rfl, rfl, ⟨by decide, by decide⟩, q⟩
    rw [if_neg (strNe n3)] at q
    refine ⟨.str d.1, rfl, rfl, _, rfl, ite2 (fun e => ?_) (fun n4 => ?_)⟩
    · rw [if_pos (strEq e)] at q
      have e2 := strEq e
      obtain ⟨i, hi, ai, ei⟩ := arg1 ok (by rw [e2]; decide +kernel) (by rw [e2]; decide +kernel) (by rw [e2]; decide +kernel)
      obtain ⟨j, hj, aj, ej⟩ := arg2 ok (by rw [e2]; decide +kernel) (by rw [e2]; decide +kernel) (by rw [e2]; decide +kernel) (by rw [e2]; decide +kernel) (by rw [e2]; decide +kernel) (by rw [e2]; decide +kernel)
      exact ⟨.ref L, rfl, .ref r, rfl, r, _, 1, .int i, rfl, rfl, SqT.of er, dvN (k := 0) hi, L, _, i, _, rfl, rfl, eL, ei, 1, _, rfl, rfl, .ref L, rfl, .ref r, rfl, r, _, 2, .int j, rfl, rfl, SqT.of er, dvN (k := 1) hj, L, _, j, _, rfl, rfl, eL, ej, _, _, rfl, rfl, .int c, rfl, _, _, rfl, rfl, _, 2, rfl, rfl, ⟨by decide, by decide⟩, q⟩
    rw [if_neg (strNe n4)] at q
    exact q
/-! ### the law's step -/
def spLs : Sp := fun vs H Q _ => ∃ (R C B : Addr) (m o : Int) (ds : List Deed) (cs bs : List Int), vs = [.ref R, .ref C, .ref B] ∧ RowAt H R m ds o ∧ DsOk m ds ∧ ds.length ≤ 100 ∧ H C = some (.tup (cs.map V.int)) ∧ cs.length = ds.length ∧ H B = some (.tup (bs.map V.int)) ∧ (bs.length : Int) = m ∧ bs.length ≤ 100 ∧
  (∀ x ∈ cs, Bit x) ∧ (∀ x ∈ bs, Bit x) ∧ ∀ H' p A2 B2, Same H H' → H' p = some (.tup [.ref A2, .ref B2]) → H' A2 = some (.tup ((bts ds cs bs).map V.int)) → H' B2 = some (.tup ((nxt ds cs (bts ds cs bs)).map V.int)) → Q (.ref p) H'
theorem ok_ls {f fB fC : Addr} {fd fdB fdC : FuncData} {k : Nat} (F : Fun K "_law_step" "_law_step" s_law_step f fd) (GB : FnOk P w K mg base CX0 (k + 1) fB fdB ["deed", "carry", "bits"] (spLb K)) (kB : PySem.W.keepIn K (.ref fB) = true) (bB : Binds K fdB ["deed", "carry", "bits"] []) (gB : mg "_law_bit" = some (.ref fB))
    (GC : FnOk P w K mg base CX0 (k + 1) fC fdC ["deed", "carry", "bits"] (spLc K)) (kC : PySem.W.keepIn K (.ref fC) = true) (bC : Binds K fdC ["deed", "carry", "bits"] []) (gC : mg "_law_carry" = some (.ref fC)) (ml : mg "list" = none) (mt : mg "tuple" = none) (mz : mg "zip" = none) : FnOk P w K mg base CX0 (k + 2) f fd ["row", "carry", "bits"] spLs := by
  refine F.ok sc_law_step (fun vs H Q E h => ?_) (fun cdv A outer s H vs Q E hr h => ?_)
  · obtain ⟨R, C, B, m, o, ds, cs, bs, rfl, _⟩ := h
    rfl
  · obtain ⟨R, C, B, m, o, ds, cs, bs, rfl, hrow, hok, hds, eC, hcl, eB, hm, hbl, cb, bb, q⟩ := h
    obtain ⟨D, rs, eR, eD, hd⟩ := id hrow
    refine ⟨_, pss_cons (ps_set (i := 3) sc_law_step.nd rfl (.inr rfl) (pe_callTy call_list_of (by rfl) ml (by decide +kernel) (pa_cons (pv 2) pa_nil)))
      (pss_cons (ps_for PassesOwn.never rfl (RZ.pi_zipA (by rfl) mz (pa_cons (pe_ix ix_tup (pv 0) pe_int (fun _ _ => rfl)) (pa_cons (pv 1) pa_nil))) (pg_tup rfl (pgs_cons (pg_name (i := 4) sc_law_step.nd rfl (.inl rfl)) (pgs_cons (pg_name (i := 5) sc_law_step.nd rfl (.inl rfl)) pgs_nil)))
        (pss_one (ps_expr (pe_bm PySem.F.plainAttrs_list PySem.F.slot_list_append PySem.F.type_list_append mt_append (pv 3) (pa_cons (pe_call GB hr (by rfl) gB kB bB .nil pass0 (pa_cons (pv 4) (pa_cons (pv 5) (pa_cons (pv 3) pa_nil)))) pa_nil)))))
      (pss_one (ps_ret (pe_tup (pa_cons (pe_callTy call_tuple_of (by rfl) mt (by decide +kernel) (pa_cons (pv 3) pa_nil)) (pa_cons (pe_callTy call_tuple_of (by rfl) mt (by decide +kernel) (pa_cons
        (pe_lc (own := [("deed", 4), ("one", 5)]) (g := gTup K 2 (gCons (gName 4) (gCons (gName 5) gNil))) (by rfl) sc_law_step.nd (RZ.pi_zipA (by rfl) mz (pa_cons (pe_ix ix_tup (pv 0) pe_int (fun _ _ => rfl)) (pa_cons (pv 1) pa_nil))) (blkOk_by (own := [("deed", 4), ("one", 5)]) (N := N_law_step) (sc := defScope s_law_step) (by decide +kernel))
          (fun _ _ _ _ _ => pg_tup rfl (pgs_cons (pg_name (i := 4) sc_law_step.nd rfl (.inl rfl)) (pgs_cons (pg_name (i := 5) sc_law_step.nd rfl (.inl rfl)) pgs_nil))) (fun _ _ _ _ _ => pts_nil)
          (fun _ _ _ _ _ => pe_call GC hr (by rfl) gC kC bC .nil pass0 (pa_cons (pv 4) (pa_cons (pv 5) (pa_cons (pv 3) pa_nil))))) pa_nil)) pa_nil)))))), ?_⟩
    refine ⟨.ref B, rfl, B, _, rfl, .inr (SqT.of eB), fun L hL => ?_⟩
    have sL := same_new (o := .lst (bs.map V.int)) hL
    have lrs : (rs.map V.ref).length = ds.length := by rw [List.length_map, awLen hd]
    have lcs : (cs.map V.int).length = ds.length := by rw [List.length_map, hcl]
    have tl : (bts ds cs bs).length = bs.length + ds.length := bts_len hcl.symm
    have allbits : ∀ x ∈ bts ds cs bs, Bit x := bts_bits bb cb
    refine ⟨.ref R, rfl, R, _, 1, .ref D, rfl, rfl, SqT.of (sL _ _ eR), rfl, .ref C, rfl, D, C, _, _, rfl, .inr ⟨SqT.of (sL _ _ eD), SqT.of (sL _ _ eC), RZ.for_zipT (K := K) (xs := rs.map V.ref) (ys := cs.map V.int) (lrs.trans lcs.symm) (fun i σ H3 => ∃ y4 y5, σ = [some (.ref R), some (.ref C), some (.ref B), some (.ref L), y4, y5] ∧ H3 L = some (.lst ((bts (ds.take i) (cs.take i) bs).map V.int)) ∧ Same H H3) ⟨none, none, rfl, by rw [upd_same]; cases ds <;> rfl, sL⟩ (fun i σ H3 hp => ?_) (fun i x y T σ H3 hx hy hp hT => ?_) (fun σ H3 hp => ?_)⟩⟩
    · obtain ⟨_, _, _, _, sm⟩ := hp
      exact ⟨SqT.of (sm _ _ eD), SqT.of (sm _ _ eC)⟩
    · obtain ⟨y4, y5, rfl, e3, sm⟩ := hp
      have hi : i < rs.length := by
        have := (List.getElem?_eq_some_iff.mp hx).1
        rwa [List.length_map] at this
      have hx' : x = .ref rs[i] := by
        rw [List.getElem?_map, List.getElem?_eq_getElem hi] at hx
        exact (Option.some.inj hx).symm
      subst hx'
      obtain ⟨d, hd1, hd2⟩ := awGet hd (List.getElem?_eq_getElem hi)
      obtain ⟨c, hc, rfl⟩ : ∃ c, cs[i]? = some c ∧ y = .int c := by
        rw [List.getElem?_map] at hy
        cases e : cs[i]? with
        | none => rw [e] at hy; cases hy
        | some c => rw [e] at hy; exact ⟨c, rfl, (Option.some.inj hy).symm⟩
      have h2 : i < ds.length := by
        rw [← awLen hd]
        exact hi
      have hlen : (bts (ds.take i) (cs.take i) bs).length = bs.length + i := by
        rw [bts_len (by rw [List.length_take, List.length_take, hcl]), List.length_take, Nat.min_eq_left (Nat.le_of_lt h2)]
      have okd : DeedOk (bts (ds.take i) (cs.take i) bs).length d := by
        rw [hlen]
        have := hok.each i d hd1
        rw [← hm] at this
        exact this
      have sT := same_new (o := .tup [.ref rs[i], .int c]) hT
      have e4 := sT _ _ e3
      refine ⟨T, [.ref rs[i], .int c], rfl, .inl (.inl upd_same), rfl, .ref rs[i], [.int c], rfl, .int c, [], rfl, rfl, ?_⟩
      refine ⟨.ref L, rfl, .inl ⟨rfl, _, .inl (.inl e4)⟩, .ref rs[i], rfl, .int c, rfl, .ref L, rfl, rs[i], L, d, _, c, rfl, sT _ _ (sm _ _ hd2), .inl (.inl e4), okd, bts_bits bb (fun x hx => cb x (List.mem_of_mem_take hx)), cb c (List.mem_of_getElem? hc), fun H5 s5 => ?_⟩
      refine ⟨L, _, _, rfl, rfl, s5 _ _ e4, ?_, some (.ref rs[i]), some (.int c), rfl, ?_, ?_⟩
      · rw [List.length_map, hlen]
        exact small1000 (by omega)
      · rw [upd_same, bts_next hd1 hc, List.map_append]
        rfl
      · intro b u e
        rw [upd_ne (ne_of_none e hL)]
        exact s5 b u (sT b u (sm b u e))
    · obtain ⟨y4, y5, rfl, e3, sm⟩ := hp
      rw [lrs, List.take_length, ← hcl, List.take_length] at e3
      refine ⟨.ref L, rfl, L, _, rfl, .inl ⟨.inl (.inl e3), fun A2 hA2 => ?_⟩⟩
      have s2 := sm.trans (same_new (o := .tup ((bts ds cs bs).map V.int)) hA2)
      have eA2 : upd H3 A2 (.tup ((bts ds cs bs).map V.int)) A2 = some (.tup ((bts ds cs bs).map V.int)) := upd_same
      have eL2 : upd H3 A2 (.tup ((bts ds cs bs).map V.int)) L = some (.lst ((bts ds cs bs).map V.int)) := same_new hA2 _ _ e3
      generalize upd H3 A2 (.tup ((bts ds cs bs).map V.int)) = H4 at s2 eA2 eL2
      refine ⟨.ref R, rfl, R, _, 1, .ref D, rfl, rfl, SqT.of (s2 _ _ eR), rfl, .ref C, rfl, D, C, _, _, rfl, .inr ⟨SqT.of (s2 _ _ eD), SqT.of (s2 _ _ eC), fun M hM => ?_⟩⟩
      refine lc_it (walk_zipT (K := K) (a := D) (b := C) (xs := rs.map V.ref) (ys := cs.map V.int) (lrs.trans lcs.symm)) (fun i H5 => H5 M = some (.lst (((nxt ds cs (bts ds cs bs)).take i).map V.int)) ∧ Same H4 H5) ⟨upd_same, same_new hM⟩ (fun i H5 _ hp => ⟨SqT.of (hp.2 _ _ (s2 _ _ eD)), SqT.of (hp.2 _ _ (s2 _ _ eC))⟩) (fun i x H5 H6 hi hp hy => ?_) (fun H5 hp => ?_)
      · obtain ⟨eM, sm5⟩ := hp
        obtain ⟨U, x1, x2, rfl, hU, rfl, g1, g2⟩ := hy
        have hi2 : i < rs.length := by rwa [List.length_map] at hi
        have hx' : x1 = .ref rs[i] := by
          have g1' : (rs.map V.ref)[i]? = some x1 := g1
          rw [List.getElem?_map, List.getElem?_eq_getElem hi2] at g1'
          exact (Option.some.inj g1').symm
        subst hx'
        obtain ⟨d, hd1, hd2⟩ := awGet hd (List.getElem?_eq_getElem hi2)
        obtain ⟨c, hc, rfl⟩ : ∃ c, cs[i]? = some c ∧ x2 = .int c := by
          have g2' : (cs.map V.int)[i]? = some x2 := g2
          rw [List.getElem?_map] at g2'
          cases e : cs[i]? with
          | none => rw [e] at g2'; cases g2'
          | some c => rw [e] at g2'; exact ⟨c, rfl, (Option.some.inj g2').symm⟩
        have h2 : i < ds.length := by
          rw [← awLen hd]
          exact hi2
        have okd : DeedOk (bts ds cs bs).length d := okd_more (hok.each i d hd1) (by omega)
        have sU := same_new (o := .tup [.ref rs[i], .int c]) hU
        refine ⟨U, [.ref rs[i], .int c], rfl, .inl (.inl upd_same), rfl, .ref rs[i], [.int c], rfl, .int c, [], rfl, rfl, rfl, ?_⟩
        refine ⟨.ref rs[i], rfl, .int c, rfl, .ref L, rfl, rs[i], L, d, _, c, rfl, sU _ _ (sm5 _ _ (s2 _ _ hd2)), .inl (.inl (sU _ _ (sm5 _ _ eL2))), okd, allbits, cb c (List.mem_of_getElem? hc), _, sU _ _ eM, ?_, ?_, ?_⟩
        · rw [List.length_map, List.length_take, nxt_len hcl.symm]
          exact small1000 (by omega)
        · rw [upd_same, nxt_next hd1 hc, List.map_append]
          rfl
        · intro b u e
          rw [upd_ne (ne_of_none e hM)]
          exact sU b u (sm5 b u e)
      · obtain ⟨eM, sm5⟩ := hp
        rw [lrs, ← nxt_len (t := bts ds cs bs) hcl.symm, List.take_length] at eM
        refine ⟨M, _, rfl, .inl ⟨.inl (.inl eM), fun B2 hB2 => ?_⟩⟩
        refine ⟨by show 2 ≤ sizeLine; decide, fun p hp => ?_⟩
        have sB := sm5.trans (same_new (o := .tup ((nxt ds cs (bts ds cs bs)).map V.int)) hB2)
        have sp := same_new (o := .tup [.ref A2, .ref B2]) hp
        exact q _ p A2 B2 ((s2.trans sB).trans sp) upd_same (sp _ _ (sB _ _ eA2)) (sp _ _ upd_same)
/-! ### the law's first carry -/
theorem ok_lf {f : Addr} {fd : FuncData} {k : Nat} (F : Fun K "_law_first" "_law_first" s_law_first f fd) (mt : mg "tuple" = none) (mi : mg "int" = none) : FnOk P w K mg base CX0 (k + 1) f fd ["row"] spFc := by
  refine F.ok sc_law_first (fun vs H Q E h => ?_) (fun cdv A outer s H vs Q E hr h => ?_)
  · obtain ⟨R, m, o, ds, rfl, _⟩ := h
    rfl
  · obtain ⟨R, m, o, ds, rfl, hrow, hl, q⟩ := h
    obtain ⟨D, rs, eR, eD, hd⟩ := id hrow
    refine ⟨_, pss_one (ps_ret (pe_callTy call_tuple_of (by rfl) mt (by decide +kernel) (pa_cons
      (pe_lc (own := [("deed", 1)]) (g := gName 1) (by rfl) sc_law_first.nd (pi_tup (pe_ix ix_tup (pv 0) pe_int (fun _ _ => rfl))) (blkOk_by (own := [("deed", 1)]) (N := N_law_first) (sc := defScope s_law_first) (by decide +kernel))
        (fun _ _ _ _ _ => pg_name (i := 1) sc_law_first.nd rfl (Or.inl rfl)) (fun _ _ _ _ _ => pts_nil)
        (fun _ _ _ _ _ => pe_callTy call_int1 (by rfl) mi (by decide +kernel) (pa_cons (pe_cmpR (r := rIn K false) op_in_seq (pe_ix (r := rIxT K) ix_tup (pv 1) pe_int (fun _ _ => rfl)) (pe_tup (pa_cons pe_str (pa_cons pe_str pa_nil))) (by rfl)) pa_nil))) pa_nil))), ?_⟩
    refine ⟨.ref R, rfl, R, _, 1, .ref D, rfl, rfl, SqT.of eR, rfl, D, rfl, ⟨_, SqT.of eD⟩, fun L hL => ?_⟩
    refine lc_tup (K := K) (a := D) (xs := rs.map V.ref) (fun i H4 => H4 L = some (.lst (((ds.take i).map fcD).map V.int)) ∧ Same H H4) ⟨upd_same, same_new hL⟩ (fun i H4 _ hp => SqT.of (hp.2 _ _ eD)) (fun i x H4 hx hp => ?_) (fun H4 hp => ?_)
    · obtain ⟨eL, sm⟩ := hp
      have hi : i < rs.length := by
        have := (List.getElem?_eq_some_iff.mp hx).1
        rwa [List.length_map] at this
      have hx' : x = .ref rs[i] := by
        rw [List.getElem?_map, List.getElem?_eq_getElem hi] at hx
        exact (Option.some.inj hx).symm
      subst hx'
      obtain ⟨d, hd1, hd2⟩ := awGet hd (List.getElem?_eq_getElem hi)
      refine ⟨rfl, .ref rs[i], rfl, rs[i], _, 0, .str d.1, rfl, rfl, SqT.of (sm _ _ hd2), dv0 d, by show 2 ≤ sizeLine; decide, fun T hT => ?_⟩
      have sT := same_new (o := .tup [.str "neg", .str "one"]) hT
      have eL2 := sT _ _ eL
      have old : ∀ o, Same H (upd (upd H4 T (.tup [.str "neg", .str "one"])) L o) := fun o b u e => by
        rw [upd_ne (ne_of_none e hL)]
        exact sT b u (sm b u e)
      have small : (((ds.take i).map fcD).map V.int).length < sizeLine := by
        rw [List.length_map, List.length_map, List.length_take]
        exact small1000 (by omega)
      have hin : inV (.str d.1) [.str "neg", .str "one"] = decide (d.1 ∈ (["neg", "one"] : List Str)) := inS d.1 ["neg", "one"]
      refine ⟨T, _, rfl, .inr (SqT.of upd_same), rfl, rfl, .inr ⟨_, rfl, _, eL2, small, ?_, old _⟩⟩
      rw [upd_same, List.take_add_one, hd1]
      have e1 : fcD d = if inV (.str d.1) [.str "neg", .str "one"] = true then 1 else 0 := by
        rw [hin]
        unfold fcD
        by_cases hm : d.1 ∈ (["neg", "one"] : List Str)
        · rw [if_pos hm, if_pos (decide_eq_true hm)]
        · rw [if_neg hm, if_neg (by simpa using hm)]
      simp only [Option.toList_some, List.map_append, List.map_cons, List.map_nil, e1]
      rfl
    · obtain ⟨eL, sm⟩ := hp
      rw [List.length_map, awLen hd, List.take_length] at eL
      refine ⟨L, _, rfl, .inl ⟨.inl (.inl eL), fun p hp => ?_⟩⟩
      exact q _ p (sm.trans (same_new hp)) (sm.free hp) upd_same
/-! ### all bits -/
/-- tuples of so many bits -/
def BitsAt (H : Hp) (n : Nat) (f : Addr) : Prop := ∃ bs : List Int, H f = some (.tup (bs.map V.int)) ∧ bs.length = n ∧ ∀ x ∈ bs, Bit x
theorem BitsAt.stay {H H' : Hp} {n : Nat} {f : Addr} (h : BitsAt H n f) (t : TupsStay H H') : BitsAt H' n f := by
  obtain ⟨bs, e, r⟩ := h
  exact ⟨bs, t _ _ e, r⟩
theorem refs_of {fs : List Addr} : ∀ ys : List V, (∀ y ∈ ys, ∃ g, g ∈ fs ∧ y = .ref g) → ∃ fs2 : List Addr, ys = fs2.map V.ref ∧ ∀ g ∈ fs2, g ∈ fs
  | [], _ => ⟨[], rfl, (fun _ z => nomatch z)⟩
  | y :: ys, all => by
    obtain ⟨g, hg, rfl⟩ := all y List.mem_cons_self
    obtain ⟨fs2, rfl, h2⟩ := refs_of ys fun z hz => all z (List.mem_cons_of_mem _ hz)
    refine ⟨g :: fs2, rfl, fun z hz => ?_⟩
    rcases List.mem_cons.mp hz with rfl | hz
    · exact hg
    · exact h2 z hz
def spAb : Sp := fun vs H Q _ => ∃ m : Nat, vs = [.int (m : Int)] ∧ 1 ≤ m ∧ m ≤ 3 ∧ ∀ H' p (fs : List Addr), Same H H' → H' p = some (.lst (fs.map V.ref)) → fs.length = 2 ^ m → (∀ f ∈ fs, BitsAt H' m f) → Q (.ref p) H'
theorem ok_ab {f : Addr} {fd : FuncData} {k : Nat} (F : Fun K "_law_bits" "_law_bits" s_law_bits f fd) (mr : mg "range" = none) (ms : mg "sorted" = none) : FnOk P w K mg base CX0 (k + 1) f fd ["many"] spAb := by
  refine F.ok sc_law_bits (fun vs H Q E h => ?_) (fun cdv A outer s H vs Q E hr h => ?_)
  · obtain ⟨m, rfl, _⟩ := h
    rfl
  · obtain ⟨m, rfl, m1, m3, q⟩ := h
    refine ⟨_, pss_cons (ps_set (i := 1) sc_law_bits.nd rfl (.inl rfl) (pe_lst (pa_cons (pe_tup pa_nil) pa_nil)))
      (pss_cons (ps_for PassesOwn.never rfl (pi_range1 (by rfl) mr (pa_cons (pv 0) pa_nil)) (pg_name (i := 2) sc_law_bits.nd rfl (.inl rfl))
        (pss_one (ps_set (i := 1) sc_law_bits.nd rfl (.inl rfl) (pe_op op_cat
          (pe_lc (own := [("some", 3)]) (g := gName 3) (by rfl) sc_law_bits.nd (pi_list (pv 1)) (blkOk_by (own := [("some", 3)]) (N := N_law_bits) (sc := defScope s_law_bits) (by decide +kernel)) (fun _ _ _ _ _ => pg_name (i := 3) sc_law_bits.nd rfl (Or.inl rfl)) (fun _ _ _ _ _ => pts_nil) (fun _ _ _ _ _ => pe_op op_catZ (pv 3) (pe_tup (pa_cons pe_int pa_nil))))
          (pe_lc (own := [("some", 3)]) (g := gName 3) (by rfl) sc_law_bits.nd (pi_list (pv 1)) (blkOk_by (own := [("some", 3)]) (N := N_law_bits) (sc := defScope s_law_bits) (by decide +kernel)) (fun _ _ _ _ _ => pg_name (i := 3) sc_law_bits.nd rfl (Or.inl rfl)) (fun _ _ _ _ _ => pts_nil) (fun _ _ _ _ _ => pe_op op_catZ (pv 3) (pe_tup (pa_cons pe_int pa_nil))))))))
      (pss_one (ps_ret (pe_callB (cr_sortT (d := m) (B := 2) m1) (by rfl) ms (by decide +kernel) (pa_cons (pv 1) pa_nil))))), ?_⟩
    refine ⟨by show 0 ≤ sizeLine; decide, fun T hT => ?_⟩
    refine ⟨by show 1 ≤ sizeLine; decide, fun L hL => ?_⟩
    have s1 := same_new (o := .tup []) hT
    have s2 := same_new (o := .lst [.ref T]) hL
    refine ⟨.int m, rfl, m, rfl, by omega, by omega, for_range (lo := 0) (n := m) (fun i σ H3 => ∃ y2 F1 fs, σ = [some (.int (m : Int)), some (.ref F1), y2, none] ∧ H3 F1 = some (.lst (fs.map V.ref)) ∧ fs.length = 2 ^ i ∧ (∀ f ∈ fs, BitsAt H3 i f) ∧ Same H H3) ⟨none, L, [T], rfl, upd_same, rfl, fun f hf => ?_, s1.trans s2⟩ (fun i σ H3 hi hp => ?_) (fun σ H3 hp => ?_)⟩
    · rw [List.mem_singleton.mp hf]
      exact ⟨[], s2 _ _ upd_same, rfl, (fun _ z => nomatch z)⟩
    · obtain ⟨y2, F1, fs, rfl, eF, hfl, hfb, sm⟩ := hp
      have fs8 : fs.length ≤ 8 := by
        rw [hfl]
        exact Nat.le_trans (Nat.pow_le_pow_right (by decide) (show i ≤ 3 by omega)) (by decide)
      -- one of the two lists
      have one : ∀ (b : Int) (H4 : Hp), Bit b → Same H3 H4 → ∀ j x H5, (∃ gs : List Addr, gs.length = j ∧ (∃ M, H5 M = some (.lst (gs.map V.ref))) ∧ (∀ g ∈ gs, BitsAt H5 (i + 1) g) ∧ Same H4 H5) → (fs.map V.ref)[j]? = some x → ∃ (f : Addr) (bs : List Int), x = .ref f ∧ H5 f = some (.tup (bs.map V.int)) ∧ bs.length = i ∧ ∀ y ∈ bs, Bit y := by
        rintro b H4 hb s4 j x H5 ⟨gs, _, _, _, s5⟩ hx
        rw [List.getElem?_map] at hx
        cases e : fs[j]? with
        | none => rw [e] at hx; cases hx
        | some f =>
          rw [e] at hx
          obtain ⟨bs, e1, e2, e3⟩ := hfb f (List.mem_of_getElem? e)
          exact ⟨f, bs, (Option.some.inj hx).symm, s5 _ _ (s4 _ _ e1), e2, e3⟩
      refine ⟨.ref F1, rfl, F1, rfl, ⟨_, .inl (.inl eF)⟩, fun M hM => ?_⟩
      refine lc_list (K := K) (a := F1) (xs := fs.map V.ref) (fun j H4 => ∃ gs : List Addr, gs.length = j ∧ H4 M = some (.lst (gs.map V.ref)) ∧ (∀ g ∈ gs, BitsAt H4 (i + 1) g) ∧ Same H3 H4) ⟨[], rfl, upd_same, (fun _ z => nomatch z), same_new hM⟩ (fun j H4 _ hp => ?_) (fun j x H4 hx hp => ?_) (fun H4 hp => ?_)
      · obtain ⟨_, _, _, _, s4⟩ := hp
        exact .inl (.inl (s4 _ _ eF))
      · obtain ⟨gs, hgl, eM, hgb, s4⟩ := hp
        obtain ⟨g0, bs, rfl, eg0, hbl, hbb⟩ := one 0 H3 bit0 (Same.refl H3) j x H4 ⟨gs, hgl, ⟨M, eM⟩, hgb, s4⟩ hx
        have hj : j < fs.length := by
          have := (List.getElem?_eq_some_iff.mp hx).1
          rwa [List.length_map] at this
        refine ⟨rfl, .ref g0, rfl, by show 1 ≤ sizeLine; decide, fun U hU => ?_⟩
        have sU := same_new (o := .tup [.int 0]) hU
        refine ⟨g0, U, _, _, rfl, rfl, sU _ _ eg0, upd_same, by rw [List.length_map]; exact Nat.le_of_lt (small1000 (by show bs.length + 1 ≤ 1000; omega)), fun p H5 s5 ep => ?_⟩
        have s45 := sU.trans s5
        have eM5 := s45 _ _ eM
        refine ⟨_, eM5, by rw [List.length_map]; exact small1000 (by omega), gs ++ [p], by rw [List.length_append, hgl]; rfl, ?_, ?_, ?_⟩
        · rw [upd_same, List.map_append]
          rfl
        · intro g hg
          have tp := tups_put (o := .lst (gs.map V.ref ++ [V.ref p])) eM5
          rcases List.mem_append.mp hg with hg | hg
          · exact (hgb g hg).stay ((Same.tups s45).trans tp)
          · rw [List.mem_singleton.mp hg]
            refine ⟨bs ++ [0], tp _ _ (by rw [ep, List.map_append]; rfl), by rw [List.length_append, hbl]; rfl, fun y hy => ?_⟩
            rcases List.mem_append.mp hy with hy | hy
            · exact hbb y hy
            · rw [List.mem_singleton.mp hy]
              exact bit0
        · intro b u e
          rw [upd_ne (ne_of_none e hM)]
          exact s45 b u (s4 b u e)
      · obtain ⟨gs, hgl, eM, hgb, s4⟩ := hp
        refine ⟨.ref F1, rfl, F1, rfl, ⟨_, .inl (.inl (s4 _ _ eF))⟩, fun M2 hM2 => ?_⟩
        refine lc_list (K := K) (a := F1) (xs := fs.map V.ref) (fun j H5 => ∃ hs : List Addr, hs.length = j ∧ H5 M2 = some (.lst (hs.map V.ref)) ∧ (∀ g ∈ hs, BitsAt H5 (i + 1) g) ∧ Same H4 H5) ⟨[], rfl, upd_same, (fun _ z => nomatch z), same_new hM2⟩ (fun j H5 _ hp => ?_) (fun j x H5 hx hp => ?_) (fun H5 hp => ?_)
        · obtain ⟨_, _, _, _, s5⟩ := hp
          exact .inl (.inl (s5 _ _ (s4 _ _ eF)))
        · obtain ⟨hs, hhl, eM2, hhb, s5⟩ := hp
          obtain ⟨g0, bs, rfl, eg0, hbl, hbb⟩ := one 1 H4 bit1 s4 j x H5 ⟨hs, hhl, ⟨M2, eM2⟩, hhb, s5⟩ hx
          have hj : j < fs.length := by
            have := (List.getElem?_eq_some_iff.mp hx).1
            rwa [List.length_map] at this
          refine ⟨rfl, .ref g0, rfl, by show 1 ≤ sizeLine; decide, fun U hU => ?_⟩
          have sU := same_new (o := .tup [.int 1]) hU
          refine ⟨g0, U, _, _, rfl, rfl, sU _ _ eg0, upd_same, by rw [List.length_map]; exact Nat.le_of_lt (small1000 (by show bs.length + 1 ≤ 1000; omega)), fun p H6 s6 ep => ?_⟩
          have s56 := sU.trans s6
          have eM6 := s56 _ _ eM2
          refine ⟨_, eM6, by rw [List.length_map]; exact small1000 (by omega), hs ++ [p], by rw [List.length_append, hhl]; rfl, ?_, ?_, ?_⟩
          · rw [upd_same, List.map_append]
            rfl
          · intro g hg
            have tp := tups_put (o := .lst (hs.map V.ref ++ [V.ref p])) eM6
            rcases List.mem_append.mp hg with hg | hg
            · exact (hhb g hg).stay ((Same.tups s56).trans tp)
            · rw [List.mem_singleton.mp hg]
              refine ⟨bs ++ [1], tp _ _ (by rw [ep, List.map_append]; rfl), by rw [List.length_append, hbl]; rfl, fun y hy => ?_⟩
              rcases List.mem_append.mp hy with hy | hy
              · exact hbb y hy
              · rw [List.mem_singleton.mp hy]
                exact bit1
          · intro b u e
            rw [upd_ne (ne_of_none e hM2)]
            exact s56 b u (s5 b u e)
        · obtain ⟨hs, hhl, eM2, hhb, s5⟩ := hp
          have lg : gs.length = fs.length := by rw [hgl, List.length_map]
          have lh : hs.length = fs.length := by rw [hhl, List.length_map]
          refine ⟨M, M2, _, _, rfl, rfl, s5 _ _ eM, eM2, by rw [List.length_map, List.length_map]; exact Nat.le_of_lt (small1000 (by omega)), fun p hp => ?_⟩
          have sp := same_new (o := .lst (gs.map V.ref ++ hs.map V.ref)) hp
          refine ⟨some (.int (0 + i)), p, gs ++ hs, rfl, ?_, ?_, fun g hg => ?_, ((sm.trans s4).trans s5).trans sp⟩
          · rw [upd_same, List.map_append]
          · rw [List.length_append, lg, lh, hfl, Nat.pow_succ]
            omega
          · rcases List.mem_append.mp hg with hg | hg
            · exact (hgb g hg).stay (Same.tups (s5.trans sp))
            · exact (hhb g hg).stay (Same.tups sp)
    · obtain ⟨y2, F1, fs, rfl, eF, hfl, hfb, sm⟩ := hp
      have fs8 : fs.length ≤ 8 := by
        rw [hfl]
        exact Nat.le_trans (Nat.pow_le_pow_right (by decide) m3) (by decide)
      refine ⟨.ref F1, rfl, F1, _, rfl, .inl (.inl eF), by rw [List.length_map]; omega, fun x hx => ?_, fun ys p perm _ hp => ?_⟩
      · obtain ⟨g, hg, rfl⟩ := List.mem_map.mp hx
        obtain ⟨bs, e1, e2, e3⟩ := hfb g hg
        refine ⟨bs, ⟨g, rfl, SqT.of e1⟩, e2, fun y hy => ?_⟩
        rcases e3 y hy with rfl | rfl
        · exact ⟨by decide, by decide⟩
        · exact ⟨by decide, by decide⟩
      · obtain ⟨fs2, rfl, perm2⟩ : ∃ fs2 : List Addr, ys = fs2.map V.ref ∧ ∀ g ∈ fs2, g ∈ fs := by
          have all : ∀ y ∈ ys, ∃ g, g ∈ fs ∧ y = .ref g := fun y hy => by
            obtain ⟨g, hg, e⟩ := List.mem_map.mp (perm.mem_iff.mp hy)
            exact ⟨g, hg, e.symm⟩
          exact refs_of ys all
        have sp := same_new (o := .lst (fs2.map V.ref)) hp
        refine q _ p fs2 (sm.trans sp) upd_same ?_ fun g hg => (hfb g (perm2 g hg)).stay (Same.tups sp)
        have := perm.length_eq
        rw [List.length_map, List.length_map] at this
        rw [this, hfl]
/-! ### all bits, as a law tells them -/
def spAbf : Sp := fun vs H Q _ => ∃ m : Nat, vs = [.int (m : Int)] ∧ 1 ≤ m ∧ m ≤ 3 ∧ ∀ H' p fs, Same H H' → H p = none → H' p = some (.lst (fs.map V.ref)) → TAt H' fs (allB m) → Q (.ref p) H'
theorem hu65_of {k : Nat} {A : Around} (r : Room k A) : A.units + 65 < cLine := by have := r.un; omega
/-! ### _law_bits: all bits, in order -/
def uB : Nat → List (List Int)
  | 0 => [[]]
  | n + 1 => (uB n).map (· ++ [0]) ++ (uB n).map (· ++ [1])
theorem uB_len : ∀ n, (uB n).length = 2 ^ n
  | 0 => rfl
  | n + 1 => by
    show ((uB n).map (· ++ [0]) ++ (uB n).map (· ++ [1])).length = _
    rw [List.length_append, List.length_map, List.length_map, uB_len n, Nat.pow_succ]
    omega
theorem uB_ok : ∀ m, ∀ bs ∈ uB m, bs.length = m ∧ ∀ x ∈ bs, Bit x
  | 0, bs, h => by
    rw [List.mem_singleton.mp h]
    exact ⟨rfl, (fun _ z => nomatch z)⟩
  | m + 1, bs, h => by
    have one : ∀ b : Int, Bit b → bs ∈ (uB m).map (· ++ [b]) → bs.length = m + 1 ∧ ∀ x ∈ bs, Bit x := fun b hb hh => by
      obtain ⟨c, hc, rfl⟩ := List.mem_map.mp hh
      obtain ⟨h1, h2⟩ := uB_ok m c hc
      refine ⟨by rw [List.length_append, h1]; rfl, fun x hx => ?_⟩
      rcases List.mem_append.mp hx with z | z
      · exact h2 x z
      · rw [List.mem_singleton.mp z]; exact hb
    rcases List.mem_append.mp h with z | z
    · exact one 0 bit0 z
    · exact one 1 bit1 z
def contA (H : Hp) (a : Addr) : List Int := match H a with
  | some (.tup vs) => vs.map fun v => match v with | .int i => i | _ => 0
  | _ => []
theorem contA_eq {H : Hp} {a : Addr} {bs : List Int} (h : H a = some (.tup (bs.map V.int))) : contA H a = bs := by
  unfold contA
  rw [h]
  show (bs.map V.int).map _ = bs
  rw [List.map_map]
  exact List.map_id _
theorem tat_cont {H : Hp} : ∀ {fs : List Addr} {l : List (List Int)}, TAt H fs l → l = fs.map (contA H)
  | _, _, .nil => rfl
  | _, _, .cons h t => by
    rw [List.map_cons, contA_eq h, ← tat_cont t]
theorem cont_tat {H : Hp} : ∀ {fs : List Addr}, (∀ f ∈ fs, H f = some (.tup ((contA H f).map V.int))) → TAt H fs (fs.map (contA H))
  | [], _ => .nil
  | f :: fs, h => .cons (h f List.mem_cons_self) (cont_tat fun g hg => h g (List.mem_cons_of_mem _ hg))
theorem sort_uniq {c : List Int → Int} : ∀ {l r : List (List Int)}, l.Perm r → l.Pairwise (fun x y => c x ≤ c y) → r.Pairwise (fun x y => c x < c y) → l = r
  | [], r, p, _, _ => by rw [List.Perm.nil_eq p]
  | x :: l, [], p, _, _ => absurd p.length_eq (by simp)
  | x :: l, y :: r, p, h1, h2 => by
    obtain ⟨h1a, h1b⟩ := List.pairwise_cons.mp h1
    obtain ⟨h2a, h2b⟩ := List.pairwise_cons.mp h2
    have e : x = y := by
      have hx : x ∈ y :: r := p.mem_iff.mp List.mem_cons_self
      have hy : y ∈ x :: l := p.mem_iff.mpr List.mem_cons_self
      rcases List.mem_cons.mp hx with z | z
      · exact z
      · rcases List.mem_cons.mp hy with w | w
        · exact w.symm
        · have a := h2a x z
          have b := h1a y w
          omega
    subst e
    rw [sort_uniq ((List.perm_cons x).mp p) h1b h2b]
theorem awApp {α β : Type} {F : α → β → Prop} : ∀ {l : List α} {l2 : List β} {r : List α} {r2 : List β}, Paired F l l2 → Paired F r r2 → Paired F (l ++ r) (l2 ++ r2)
  | _, _, _, _, .nil, h => h
  | _, _, _, _, .cons a t, h => .cons a (awApp t h)
def unRef : V → Addr
  | .ref a => a
  | _ => 0
theorem perm_ref {a b : List Addr} (h : (a.map V.ref).Perm (b.map V.ref)) : a.Perm b := by
  have := h.map unRef
  rw [List.map_map, List.map_map] at this
  have e : ∀ l : List Addr, l.map (unRef ∘ V.ref) = l := fun l => List.map_id l
  rwa [e, e] at this
theorem uB_sorted {m : Nat} (m3 : m ≤ 3) : (uB m).Perm (allB m) ∧ (allB m).Pairwise (fun x y => TS.code 2 x < TS.code 2 y) := by
  have hm : m = 0 ∨ m = 1 ∨ m = 2 ∨ m = 3 := by omega
  rcases hm with rfl | rfl | rfl | rfl
  · exact ⟨by decide +kernel, by decide +kernel⟩
  · exact ⟨by decide +kernel, by decide +kernel⟩
  · exact ⟨by decide +kernel, by decide +kernel⟩
  · exact ⟨by decide +kernel, by decide +kernel⟩
set_option maxHeartbeats 1000000 in
theorem ok_abf {f : Addr} {fd : FuncData} {k : Nat} (F : Fun K "_law_bits" "_law_bits" s_law_bits f fd) (mr : mg "range" = none) (ms : mg "sorted" = none) : FnOk P w K mg base CX0 (k + 1) f fd ["many"] (fun vs H Q _ => ∃ m : Nat, vs = [.int (m : Int)] ∧ 1 ≤ m ∧ m ≤ 3 ∧ ∀ H' p fs, Same H H' → H p = none → H' p = some (.lst (fs.map V.ref)) → TAt H' fs (allB m) → Q (.ref p) H') := by
  refine F.ok sc_law_bits (fun vs H Q E h => ?_) (fun cdv A outer s H vs Q E hr h => ?_)
  · obtain ⟨m, rfl, _⟩ := h
    rfl
  · obtain ⟨m, rfl, m1, m3, q⟩ := h
    refine ⟨_, pss_cons (ps_set (i := 1) sc_law_bits.nd rfl (.inl rfl) (pe_lst (pa_cons (pe_tup pa_nil) pa_nil)))
      (pss_cons (ps_for PassesOwn.never rfl (pi_range1 (by rfl) mr (pa_cons (pv 0) pa_nil)) (pg_name (i := 2) sc_law_bits.nd rfl (.inl rfl))
        (pss_one (ps_set (i := 1) sc_law_bits.nd rfl (.inl rfl) (pe_op op_cat
          (pe_lc (own := [("some", 3)]) (g := gName 3) (by rfl) sc_law_bits.nd (pi_list (pv 1)) (blkOk_by (own := [("some", 3)]) (N := N_law_bits) (sc := defScope s_law_bits) (by decide +kernel)) (fun _ _ _ _ _ => pg_name (i := 3) sc_law_bits.nd rfl (Or.inl rfl)) (fun _ _ _ _ _ => pts_nil) (fun _ _ _ _ _ => pe_op op_catZ (pv 3) (pe_tup (pa_cons pe_int pa_nil))))
          (pe_lc (own := [("some", 3)]) (g := gName 3) (by rfl) sc_law_bits.nd (pi_list (pv 1)) (blkOk_by (own := [("some", 3)]) (N := N_law_bits) (sc := defScope s_law_bits) (by decide +kernel)) (fun _ _ _ _ _ => pg_name (i := 3) sc_law_bits.nd rfl (Or.inl rfl)) (fun _ _ _ _ _ => pts_nil) (fun _ _ _ _ _ => pe_op op_catZ (pv 3) (pe_tup (pa_cons pe_int pa_nil))))))))
      (pss_one (ps_ret (pe_callB (cr_sortT (d := m) (B := 2) m1) (by rfl) ms (by decide +kernel) (pa_cons (pv 1) pa_nil))))), ?_⟩
    refine ⟨by show 0 ≤ sizeLine; decide, fun T hT => ?_⟩
    refine ⟨by show 1 ≤ sizeLine; decide, fun L hL => ?_⟩
    have s1 := same_new (o := .tup []) hT
    have s2 := same_new (o := .lst [.ref T]) hL
    refine ⟨.int m, rfl, m, rfl, by omega, by omega, for_range (lo := 0) (n := m) (fun i σ H3 => ∃ y2 F1 fs, σ = [some (.int (m : Int)), some (.ref F1), y2, none] ∧ H3 F1 = some (.lst (fs.map V.ref)) ∧ TAt H3 fs (uB i) ∧ Same H H3) ⟨none, L, [T], rfl, upd_same, .cons (s2 _ _ upd_same) .nil, s1.trans s2⟩ (fun i σ H3 hi hp => ?_) (fun σ H3 hp => ?_)⟩
    · obtain ⟨y2, F1, fs, rfl, eF, hfb, sm⟩ := hp
      have hfl : fs.length = 2 ^ i := by rw [awLen hfb, uB_len]
      have fs8 : fs.length ≤ 8 := by
        rw [hfl]
        exact Nat.le_trans (Nat.pow_le_pow_right (by decide) (show i ≤ 3 by omega)) (by decide)
      refine ⟨.ref F1, rfl, F1, rfl, ⟨_, .inl (.inl eF)⟩, fun M hM => ?_⟩
      refine lc_list (K := K) (a := F1) (xs := fs.map V.ref) (fun j H4 => ∃ gs : List Addr, H4 M = some (.lst (gs.map V.ref)) ∧ TAt H4 gs (((uB i).take j).map (· ++ [0])) ∧ Same H3 H4) ⟨[], upd_same, .nil, same_new hM⟩ (fun j H4 _ hp => ?_) (fun j x H4 hx hp => ?_) (fun H4 hp => ?_)
      · obtain ⟨_, _, _, s4⟩ := hp
        exact .inl (.inl (s4 _ _ eF))
      · obtain ⟨gs, eM, hgb, s4⟩ := hp
        rw [List.getElem?_map] at hx
        obtain ⟨g0, hg0, rfl⟩ := Option.map_eq_some_iff.mp hx
        obtain ⟨bs, hbs, eg⟩ := awGet hfb hg0
        have eg0 : H4 g0 = some (.tup (bs.map V.int)) := s4 _ _ eg
        have hj := (List.getElem?_eq_some_iff.mp hg0).1
        have hbl := (uB_ok i bs (List.mem_of_getElem? hbs)).1
        have hgl := awLen hgb
        rw [List.length_map, List.length_take] at hgl
        refine ⟨rfl, .ref g0, rfl, by show 1 ≤ sizeLine; decide, fun U hU => ?_⟩
        have sU := same_new (o := .tup [.int 0]) hU
        refine ⟨g0, U, _, _, rfl, rfl, sU _ _ eg0, upd_same, by rw [List.length_map]; exact Nat.le_of_lt (small1000 (by show bs.length + 1 ≤ 1000; omega)), fun p H5 s5 ep => ?_⟩
        have s45 := sU.trans s5
        have eM5 := s45 _ _ eM
        refine ⟨_, eM5, by rw [List.length_map]; exact small1000 (by omega), gs ++ [p], ?_, ?_, ?_⟩
        · rw [upd_same, List.map_append]
          rfl
        · have tp := tups_put (o := .lst (gs.map V.ref ++ [V.ref p])) eM5
          rw [List.take_add_one, hbs, List.map_append]
          exact tat_stay tp (awSnoc (F := fun (f : Addr) (b : List Int) => H5 f = some (.tup (b.map V.int))) (by rw [ep, List.map_append]; rfl) (tat_stay (Same.tups s45) hgb))
        · intro b u e
          rw [upd_ne (ne_of_none e hM)]
          exact s45 b u (s4 b u e)
      · obtain ⟨gs, eM, hgb, s4⟩ := hp
        refine ⟨.ref F1, rfl, F1, rfl, ⟨_, .inl (.inl (s4 _ _ eF))⟩, fun M2 hM2 => ?_⟩
        refine lc_list (K := K) (a := F1) (xs := fs.map V.ref) (fun j H5 => ∃ hs : List Addr, H5 M2 = some (.lst (hs.map V.ref)) ∧ TAt H5 hs (((uB i).take j).map (· ++ [1])) ∧ Same H4 H5) ⟨[], upd_same, .nil, same_new hM2⟩ (fun j H5 _ hp => ?_) (fun j x H5 hx hp => ?_) (fun H5 hp => ?_)
        · obtain ⟨_, _, _, s5⟩ := hp
          exact .inl (.inl (s5 _ _ (s4 _ _ eF)))
        · obtain ⟨hs, eM2, hhb, s5⟩ := hp
          rw [List.getElem?_map] at hx
          obtain ⟨g0, hg0, rfl⟩ := Option.map_eq_some_iff.mp hx
          obtain ⟨bs, hbs, eg⟩ := awGet hfb hg0
          have eg0 : H5 g0 = some (.tup (bs.map V.int)) := s5 _ _ (s4 _ _ eg)
          have hj := (List.getElem?_eq_some_iff.mp hg0).1
          have hbl := (uB_ok i bs (List.mem_of_getElem? hbs)).1
          have hgl := awLen hhb
          rw [List.length_map, List.length_take] at hgl
          refine ⟨rfl, .ref g0, rfl, by show 1 ≤ sizeLine; decide, fun U hU => ?_⟩
          have sU := same_new (o := .tup [.int 1]) hU
          refine ⟨g0, U, _, _, rfl, rfl, sU _ _ eg0, upd_same, by rw [List.length_map]; exact Nat.le_of_lt (small1000 (by show bs.length + 1 ≤ 1000; omega)), fun p H6 s6 ep => ?_⟩
          have s56 := sU.trans s6
          have eM6 := s56 _ _ eM2
          refine ⟨_, eM6, by rw [List.length_map]; exact small1000 (by omega), hs ++ [p], ?_, ?_, ?_⟩
          · rw [upd_same, List.map_append]
            rfl
          · have tp := tups_put (o := .lst (hs.map V.ref ++ [V.ref p])) eM6
            rw [List.take_add_one, hbs, List.map_append]
            exact tat_stay tp (awSnoc (F := fun (f : Addr) (b : List Int) => H6 f = some (.tup (b.map V.int))) (by rw [ep, List.map_append]; rfl) (tat_stay (Same.tups s56) hhb))
          · intro b u e
            rw [upd_ne (ne_of_none e hM2)]
            exact s56 b u (s5 b u e)
        · obtain ⟨hs, eM2, hhb, s5⟩ := hp
          have ul := uB_len i
          rw [List.length_map, hfl, ← ul, List.take_length] at hhb hgb
          have lg := awLen hgb
          have lh := awLen hhb
          rw [List.length_map] at lg lh
          refine ⟨M, M2, _, _, rfl, rfl, s5 _ _ eM, eM2, by rw [List.length_map, List.length_map]; exact Nat.le_of_lt (small1000 (by omega)), fun p hp => ?_⟩
          have sp := same_new (o := .lst (gs.map V.ref ++ hs.map V.ref)) hp
          refine ⟨some (.int (0 + i)), p, gs ++ hs, rfl, ?_, ?_, ((sm.trans s4).trans s5).trans sp⟩
          · rw [upd_same, List.map_append]
          · exact tat_stay (Same.tups sp) (awApp (tat_stay (Same.tups s5) hgb) hhb)
    · obtain ⟨y2, F1, fs, rfl, eF, hfb, sm⟩ := hp
      have hfl : fs.length = 2 ^ m := by rw [awLen hfb, uB_len]
      have fs8 : fs.length ≤ 8 := by
        rw [hfl]
        exact Nat.le_trans (Nat.pow_le_pow_right (by decide) m3) (by decide)
      have hcont := tat_cont hfb
      have each : ∀ g ∈ fs, ∃ bs, bs ∈ uB m ∧ H3 g = some (.tup (bs.map V.int)) := fun g hg => by
        obtain ⟨i, hi⟩ := List.mem_iff_getElem?.mp hg
        obtain ⟨bs, h1, h2⟩ := awGet hfb hi
        exact ⟨bs, List.mem_of_getElem? h1, h2⟩
      refine ⟨.ref F1, rfl, F1, _, rfl, .inl (.inl eF), by rw [List.length_map]; omega, fun x hx => ?_, fun ys p perm srt hp => ?_⟩
      · obtain ⟨g, hg, rfl⟩ := List.mem_map.mp hx
        obtain ⟨bs, hb, e1⟩ := each g hg
        obtain ⟨e2, e3⟩ := uB_ok m bs hb
        refine ⟨bs, ⟨g, rfl, SqT.of e1⟩, e2, fun y hy => ?_⟩
        rcases e3 y hy with rfl | rfl
        · exact ⟨by decide, by decide⟩
        · exact ⟨by decide, by decide⟩
      · obtain ⟨fs2, rfl, perm2⟩ : ∃ fs2 : List Addr, ys = fs2.map V.ref ∧ ∀ g ∈ fs2, g ∈ fs := by
          have all : ∀ y ∈ ys, ∃ g, g ∈ fs ∧ y = .ref g := fun y hy => by
            obtain ⟨g, hg, e⟩ := List.mem_map.mp (perm.mem_iff.mp hy)
            exact ⟨g, hg, e.symm⟩
          exact refs_of ys all
        have sp := same_new (o := .lst (fs2.map V.ref)) hp
        have pm : fs2.Perm fs := perm_ref perm
        have at2 : ∀ g ∈ fs2, H3 g = some (.tup ((contA H3 g).map V.int)) := fun g hg => by
          obtain ⟨bs, _, e⟩ := each g (perm2 g hg)
          rw [contA_eq e]
          exact e
        have e2 : fs2.map (contA H3) = allB m := by
          obtain ⟨u1, u2⟩ := uB_sorted m3
          refine sort_uniq (c := TS.code 2) ((pm.map _).trans (by rw [← hcont]; exact u1)) ?_ u2
          rw [List.pairwise_map]
          rw [List.pairwise_map] at srt
          refine srt.imp_of_mem fun {a b} ha hb z => z _ _ ⟨a, rfl, SqT.of (at2 a ha)⟩ ⟨b, rfl, SqT.of (at2 b hb)⟩
        refine q _ p fs2 (sm.trans sp) (sm.free hp) upd_same ?_
        rw [← e2]
        exact tat_stay (Same.tups sp) (cont_tat at2)
/-! ### told_by -/
theorem bit_and1 {x : Int} (h : 0 ≤ x) : Builtin.bitAnd x 1 = x % 2 := by
  obtain ⟨a, rfl⟩ := Int.eq_ofNat_of_zero_le h
  rw [bitAnd_pp (Int.natCast_nonneg _) (by decide)]
  simp only [Int.toNat_natCast]
  show ((a &&& 1 : Nat) : Int) = _
  rw [Nat.and_one_is_mod]
  omega
def atb (bs : List Int) : Int := bs.foldl (fun a b => 2 * a + b) 0
theorem atb_snoc (bs : List Int) (b : Int) : atb (bs ++ [b]) = 2 * atb bs + b := by
  unfold atb
  rw [List.foldl_append]
  rfl
theorem ext2_at : ∀ {l : List (List Int)} {j : Nat} {b : List Int}, l[j]? = some b → (ext2 l)[2 * j]? = some (b ++ [0]) ∧ (ext2 l)[2 * j + 1]? = some (b ++ [1])
  | [], j, b, h => by simp at h
  | x :: l, 0, b, h => by
    have : x = b := by simpa using h
    subst this
    exact ⟨rfl, rfl⟩
  | x :: l, j + 1, b, h => by
    have h' : l[j]? = some b := by simpa using h
    have ih := ext2_at h'
    have e : ext2 (x :: l) = (x ++ [0]) :: (x ++ [1]) :: ext2 l := rfl
    rw [e]
    have e1 : 2 * (j + 1) = 2 * j + 1 + 1 := by omega
    have e2 : 2 * (j + 1) + 1 = 2 * j + 1 + 1 + 1 := by omega
    constructor
    · rw [e1, List.getElem?_cons_succ, List.getElem?_cons_succ]
      exact ih.1
    · rw [e2, List.getElem?_cons_succ, List.getElem?_cons_succ]
      exact ih.2
theorem allB_at : ∀ (m : Nat) (bs : List Int), bs.length = m → (∀ x ∈ bs, Bit x) → ∃ j : Nat, atb bs = (j : Int) ∧ (allB m)[j]? = some bs
  | 0, bs, h, _ => by
    rw [List.eq_nil_of_length_eq_zero h]
    exact ⟨0, rfl, rfl⟩
  | m + 1, bs, h, hb => by
    have hne : bs ≠ [] := fun e => by rw [e] at h; simp at h
    have e := List.dropLast_concat_getLast hne
    obtain ⟨j, h1, h2⟩ := allB_at m bs.dropLast (by rw [List.length_dropLast, h]; rfl) fun x hx => hb x ((List.dropLast_sublist bs).subset hx)
    obtain ⟨h3, h4⟩ := ext2_at h2
    rcases hb _ (List.getLast_mem hne) with z | z
    · refine ⟨2 * j, ?_, ?_⟩
      · rw [← e, atb_snoc, h1, z]
        omega
      · rw [← e, z]
        exact h3
    · refine ⟨2 * j + 1, ?_, ?_⟩
      · rw [← e, atb_snoc, h1, z]
        omega
      · rw [← e, z]
        exact h4
abbrev atv (t : Nat) (xs : List Int) : Int := atb (xs.map (bitA t))
def spTb (K : PySem.W.Frag) : Sp := fun vs H Q _ => ∃ (p W : Addr) (ls : List Addr) (mac : List MRow) (xs : List Int) (n : Nat) (I : Nat → Nat → Int → Prop), vs = [.ref p, .int (n : Int), .ref W] ∧ SqL K H p (ls.map V.ref) ∧ MacL H ls mac ∧ SqL K H W (xs.map V.int) ∧ (∀ x ∈ xs, 0 ≤ x) ∧ n ≤ 60 ∧
  I 0 0 0 ∧ (∀ t k v, t < n → I t k v → ∃ row j b k', mac[k]? = some row ∧ atv t xs = ((j : Nat) : Int) ∧ row[j]? = some (b, ((k' : Nat) : Int)) ∧ Bit b ∧ I (t + 1) k' (v + b * 2 ^ t)) ∧ ∀ k v, I n k v → Q (.int v) H
theorem ok_tb {f : Addr} {fd : FuncData} {k : Nat} (F : Fun K "told_by" "told_by" s_told_by f fd) (mr : mg "range" = none) : FnOk P w K mg base CX0 (k + 1) f fd ["machine", "width", "words"] (spTb K) := by
  refine F.ok sc_told_by (fun vs H Q E h => ?_) (fun cdv A outer s H vs Q E hr h => ?_)
  · obtain ⟨p, W, ls, mac, xs, n, I, rfl, _⟩ := h
    rfl
  · obtain ⟨p, W, ls, mac, xs, n, I, rfl, hp, hmac, hW, hx, n60, i0, is, q⟩ := h
    refine ⟨_, pss_cons (ps_set (i := 3) sc_told_by.nd rfl (.inl rfl) pe_int)
      (pss_cons (ps_set (i := 4) sc_told_by.nd rfl (.inl rfl) pe_int)
      (pss_cons (ps_for PassesOwn.never rfl (pi_range1 (by rfl) mr (pa_cons (pv 1) pa_nil)) (pg_name (i := 5) sc_told_by.nd rfl (.inl rfl))
        (pss_cons (ps_set (i := 6) sc_told_by.nd rfl (.inl rfl) pe_int)
        (pss_cons (ps_for PassesOwn.never rfl (pi_list (pv 2)) (pg_name (i := 7) sc_told_by.nd rfl (.inl rfl))
          (pss_one (ps_set (i := 6) sc_told_by.nd rfl (.inl rfl) (pe_op op_add (pe_op op_mul pe_int (pv 6)) (pe_op op_and (pe_op op_shr (pv 7) (pv 5)) pe_int)))))
        (pss_cons (ps_asg (pe_ix ix_list (pe_ix ix_list (pv 0) (pv 4) (fun _ _ => rfl)) (pv 6) (fun _ _ => rfl)) (pg_tup rfl (pgs_cons (pg_name (i := 8) sc_told_by.nd rfl (.inl rfl)) (pgs_cons (pg_name (i := 4) sc_told_by.nd rfl (.inl rfl)) pgs_nil))))
        (pss_one (ps_aug (i := 3) sc_told_by.nd rfl (.inl rfl) (pe_op op_shl (pv 8) (pv 5)) ip_add))))))
      (pss_one (ps_ret (pv 3))))), ?_⟩
    refine ⟨.int n, rfl, n, rfl, by omega, by omega, for_range (lo := 0) (n := n) (fun t σ H3 => ∃ y5 y6 y7 y8 k v, σ = [some (.ref p), some (.int (n : Int)), some (.ref W), some (.int v), some (.int ((k : Nat) : Int)), y5, y6, y7, y8] ∧ I t k v ∧ H3 = H)
      ⟨none, none, none, none, 0, 0, rfl, i0, rfl⟩ (fun t σ H3 ht hp => ?_) (fun σ H3 hp => ?_)⟩
    · obtain ⟨y5, y6, y7, y8, k0, v, rfl, it, rfl⟩ := hp
      refine ⟨.ref W, rfl, W, rfl, ⟨_, hW⟩, for_list (K := K) (a := W) (xs := xs.map V.int) (fun i σ H4 => ∃ y7, σ = [some (.ref p), some (.int (n : Int)), some (.ref W), some (.int v), some (.int ((k0 : Nat) : Int)), some (.int (0 + t)), some (.int (atv t (xs.take i))), y7, y8] ∧ H4 = H3)
        ⟨y7, rfl, rfl⟩ (fun i σ H4 _ hp => ?_) (fun i x σ H4 hx' hp => ?_) (fun σ H4 hp => ?_)⟩
      · obtain ⟨_, _, rfl⟩ := hp
        exact hW
      · obtain ⟨y7, rfl, rfl⟩ := hp
        have hi : i < xs.length := by
          have := (List.getElem?_eq_some_iff.mp hx').1
          rwa [List.length_map] at this
        have hxx : x = .int xs[i] := by
          rw [List.getElem?_map, List.getElem?_eq_getElem hi] at hx'
          exact (Option.some.inj hx').symm
        subst hxx
        have x0 := hx xs[i] (List.getElem_mem hi)
        have wb : Builtin.bitAnd (xs[i] / 2 ^ ((0 + (t : Int)).toNat)) 1 = bitA t xs[i] := by
          rw [show (0 + (t : Int)).toNat = t by omega, bit_and1 (Int.ediv_nonneg x0 (by have := pw_pos t; omega))]
          rfl
        refine ⟨.int _, rfl, 2, _, rfl, rfl, .inl ⟨by decide, by decide⟩, .int xs[i], rfl, .int (0 + t), rfl, xs[i], 0 + t, rfl, rfl, by omega, _, 1, rfl, rfl, _, _, rfl, rfl, some (.int xs[i]), ?_, rfl⟩
        have e1 : atv t (xs.take (i + 1)) = 2 * atv t (xs.take i) + Builtin.bitAnd (xs[i] / 2 ^ ((0 + (t : Int)).toNat)) 1 := by
          rw [wb]
          unfold atv
          rw [List.take_add_one, List.getElem?_eq_getElem hi, List.map_append]
          exact atb_snoc _ _
        rw [e1]
        rfl
      · obtain ⟨y7, rfl, rfl⟩ := hp
        obtain ⟨row, j, b, k', h1, h2, h3, hb, h5⟩ := is t k0 v ht it
        rw [List.length_map, List.take_length, h2]
        have kl := (List.getElem?_eq_some_iff.mp h1).1
        have kls : k0 < ls.length := by
          rw [awLen hmac]
          exact kl
        obtain ⟨row', g1, qs, g2, g3⟩ := awGet hmac (List.getElem?_eq_getElem kls)
        rw [h1] at g1
        obtain rfl := Option.some.inj g1
        have jl := (List.getElem?_eq_some_iff.mp h3).1
        have jq : j < qs.length := by
          rw [awLen g3]
          exact jl
        obtain ⟨e', g4, g5⟩ := awGet g3 (List.getElem?_eq_getElem jq)
        rw [h3] at g4
        obtain rfl := Option.some.inj g4
        refine ⟨.ref p, rfl, .int ((k0 : Nat) : Int), rfl, p, _, _, .ref ls[k0], rfl, rfl, hp, atI_nat (by rw [List.getElem?_map, List.getElem?_eq_getElem kls]; rfl), .int ((j : Nat) : Int), rfl, ls[k0], _, _, .ref qs[j], rfl, rfl, .inl (.inl g2), atI_nat (by rw [List.getElem?_map, List.getElem?_eq_getElem jq]; rfl), ?_⟩
        refine ⟨qs[j], [.int b, .int ((k' : Nat) : Int)], rfl, .inl (.inl g5), rfl, .int b, [.int ((k' : Nat) : Int)], rfl, .int ((k' : Nat) : Int), [], rfl, rfl, ?_⟩
        have bb : b.natAbs < 2 ^ 64 := by
          rcases hb with rfl | rfl <;> decide
        refine ⟨.int v, rfl, .int b, rfl, .int (0 + t), rfl, b, 0 + t, rfl, rfl, ⟨by omega, by omega, bb⟩, _, _, rfl, rfl, ?_⟩
        refine ⟨some (.int (0 + t)), some (.int ((j : Nat) : Int)), y7, some (.int b), k', v + b * 2 ^ t, ?_, h5, rfl⟩
        rw [show (0 + (t : Int)).toNat = t by omega]
        rfl
    · obtain ⟨y5, y6, y7, y8, k0, v, rfl, it, rfl⟩ := hp
      exact ⟨.int v, rfl, q k0 v it⟩
/-- the worth of a row, told by its least machine -/
theorem sim_worth {m n : Nat} {ds : List Deed} {o : Int} {lm : List MRow} {xs : List Int} {S : List Int → Nat → Prop} (sm : Sim m ds o lm S) (ok : DsOk m ds) (hm : xs.length = m) (m1 : 1 ≤ m) (hx : ∀ x ∈ xs, 0 ≤ x ∧ x < 2 ^ n) (o0 : 0 ≤ o) (o1 : o < m + ds.length) :
    ∀ t k v, t < n → (S (crry ds xs t) k ∧ v = (vals (2 ^ n) ds xs).getD o.toNat 0 % 2 ^ t) → ∃ row j b k', lm[k]? = some row ∧ atv t xs = ((j : Nat) : Int) ∧ row[j]? = some (b, ((k' : Nat) : Int)) ∧ Bit b ∧ (S (crry ds xs (t + 1)) k' ∧ v + b * 2 ^ t = (vals (2 ^ n) ds xs).getD o.toNat 0 % 2 ^ (t + 1)) := by
  rintro t k v ht ⟨hS, rfl⟩
  obtain ⟨row, h1, h2⟩ := sm.2 _ _ hS
  obtain ⟨j, h3, h4⟩ := allB_at m (xs.map (bitA t)) (by rw [List.length_map, hm]) fun x hx => by
    obtain ⟨y, _, rfl⟩ := List.mem_map.mp hx
    exact bitA_bit t y
  have e1 : (stp m ds o (crry ds xs t))[j]? = some ((bts ds (crry ds xs t) (xs.map (bitA t))).getD o.toNat 0, nxt ds (crry ds xs t) (bts ds (crry ds xs t) (xs.map (bitA t)))) := by
    unfold stp
    rw [List.getElem?_map, h4]
    rfl
  have jl : j < row.length := by
    rw [awLen h2]
    exact (List.getElem?_eq_some_iff.mp e1).1
  obtain ⟨s, g1, g2, k', g3, g4⟩ := awGet h2 (List.getElem?_eq_getElem jl)
  rw [e1] at g1
  obtain rfl := Option.some.inj g1
  have cb := crry_bits ok hm m1 hx ht
  have vl := vals_len (size := 2 ^ n) ds xs
  have ol : o.toNat < (vals (2 ^ n) ds xs).length := by
    rw [vl, hm]
    omega
  have eb : row[j].1 = bitA t ((vals (2 ^ n) ds xs).getD o.toNat 0) := by
    rw [g2, cb, List.getD_eq_getElem?_getD, List.getD_eq_getElem?_getD, List.getElem?_map, List.getElem?_eq_getElem ol]
    rfl
  refine ⟨row, j, row[j].1, k', h1, h3, ?_, ?_, g4, ?_⟩
  · rw [List.getElem?_eq_getElem jl, ← g3]
  · rw [eb]
    exact bitA_bit _ _
  · rw [eb]
    generalize (vals (2 ^ n) ds xs).getD o.toNat 0 = W
    have h := low_next W (pw_pos t)
    rw [Int.mul_comm 2, ← Int.pow_succ] at h
    unfold bitA
    rw [h, Int.mul_comm, Int.add_comm]
    first | done | omega
/-! ### the law's values -/
theorem arg_range {told : List Int} {N : Int} (hN : 0 < N) (h : ∀ x ∈ told, 0 ≤ x ∧ x < N) (d : Deed) (j : Nat) : 0 ≤ argAt d told j ∧ argAt d told j < N := by
  unfold argAt
  rw [List.getD_eq_getElem?_getD]
  cases e : told[(d.2.getD j 0).toNat]? with
  | none => exact ⟨Int.le_refl _, hN⟩
  | some y => exact h y (List.mem_of_getElem? e)
def spLw (K : PySem.W.Frag) : Sp := fun vs H Q _ => ∃ (r L : Addr) (d : Deed) (told : List Int) (n : Nat), vs = [.ref r, .ref L, .int (2 ^ n)] ∧ H r = some (.tup (dV d)) ∧ SqL K H L (told.map V.int) ∧ DeedOk told.length d ∧ (∀ x ∈ told, 0 ≤ x ∧ x < 2 ^ n) ∧ 1 ≤ n ∧
  ∀ H', Same H H' → Q (.int (dval (2 ^ n) d told)) H'
theorem ok_lw {f : Addr} {fd : FuncData} {k : Nat} (F : Fun K "_law_value" "_law_value" s_law_value f fd) : FnOk P w K mg base CX0 (k + 1) f fd ["deed", "told", "full"] (spLw K) := by
  refine F.ok sc_law_value (fun vs H Q E h => ?_) (fun cdv A outer s H vs Q E hr h => ?_)
  · obtain ⟨r, L, d, told, n, rfl, _⟩ := h
    rfl
  · obtain ⟨r, L, d, told, n, rfl, er, eL, ok, tb, hn, q⟩ := h
    refine ⟨_, pss_cons (ps_set (i := 3) sc_law_value.nd rfl (.inl rfl) (pe_ix ix_tup (pv 0) pe_int (fun _ _ => rfl)))
      (pss_cons (ps_if (pt_cmpR op_in_seq (pv 3) (pe_tup (pa_cons pe_str (pa_cons pe_str (pa_cons pe_str pa_nil)))) (by rfl)) (pss_one (ps_ret (pe_dget (hu_of hr) (pe_disp (pps_cons pe_str pe_int (pps_cons pe_str pe_int (pps_cons pe_str (pe_op op_sub (pv 2) pe_int) pps_nil))) (by rfl) (by rfl) (fun z => by cases z) (by decide)) (pv 3) (fun _ _ => rfl)))) pss_nil)
      (pss_cons (ps_set (i := 4) sc_law_value.nd rfl (.inl rfl) (pe_ix ix_list (pv 1) (pe_ix ix_tup (pv 0) pe_int (fun _ _ => rfl)) (fun _ _ => rfl)))
      (pss_cons (ps_if (pt_cmpR op_in_seq (pv 3) (pe_tup (pa_cons pe_str (pa_cons pe_str (pa_cons pe_str pa_nil)))) (by rfl)) (pss_one (ps_ret (pe_op op_mod (pe_dget (hu_of hr) (pe_disp (pps_cons pe_str (pe_op op_sub (pe_op op_sub (pv 2) pe_int) (pv 4)) (pps_cons pe_str (pe_op op_sub pe_int (pv 4)) (pps_cons pe_str (pe_op op_mul pe_int (pv 4)) pps_nil))) (by rfl) (by rfl) (fun z => by cases z) (by decide)) (pv 3) (fun _ _ => rfl)) (pv 2)))) pss_nil)
      (pss_cons (ps_set (i := 5) sc_law_value.nd rfl (.inl rfl) (pe_ix ix_list (pv 1) (pe_ix ix_tup (pv 0) pe_int (fun _ _ => rfl)) (fun _ _ => rfl)))
      (pss_cons (ps_if (pt_cmpR op_in_seq (pv 3) (pe_tup (pa_cons pe_str (pa_cons pe_str (pa_cons pe_str pa_nil)))) (by rfl)) (pss_one (ps_ret (pe_dget (hu_of hr) (pe_disp (pps_cons pe_str (pe_op op_and (pv 4) (pv 5)) (pps_cons pe_str (pe_op op_or (pv 4) (pv 5)) (pps_cons pe_str (pe_op op_xor (pv 4) (pv 5)) pps_nil))) (by rfl) (by rfl) (fun z => by cases z) (by decide)) (pv 3) (fun _ _ => rfl)))) pss_nil)
      (pss_one (ps_ret (pe_op op_mod (pe_dget (hu_of hr) (pe_disp (pps_cons pe_str (pe_op op_add (pv 4) (pv 5)) (pps_cons pe_str (pe_op op_sub (pv 4) (pv 5)) pps_nil)) (by rfl) (by rfl) (fun z => by cases z) (by decide)) (pv 3) (fun _ _ => rfl)) (pv 2))))))))), ?_⟩
    have npos := pw_pos n
    have p2 : (2 : Int) ≤ 2 ^ n := by
      have := pw_le hn
      simpa using this
    obtain ⟨a0, a1⟩ := arg_range npos tb d 0
    obtain ⟨b0, b1⟩ := arg_range npos tb d 1
    unfold dval at q
    refine ⟨.ref r, rfl, r, _, 0, .str d.1, rfl, rfl, SqT.of er, dv0 d, ?_⟩
    refine ⟨.str d.1, rfl, by show 3 ≤ sizeLine; decide, fun T hT => ?_⟩
    have sT := same_new (o := .tup [.str "none", .str "one", .str "all"]) hT
    refine ⟨T, _, rfl, .inr (SqT.of upd_same), rfl, rfl, _, rfl, ite2 (fun e => ?_) (fun e => ?_)⟩
    · have hm : d.1 ∈ (["none", "one", "all"] : List Str) := of_decide_eq_true ((inS d.1 ["none", "one", "all"]).symm.trans e)
      intro p hp
      refine ⟨.int (2 ^ n), rfl, 2 ^ n, 1, rfl, rfl, upd_same, [(Sum.inr "none", .int 0), (Sum.inr "one", .int 1), (Sum.inr "all", .int (2 ^ n - 1))], rfl, (by show 3 ≤ 15; decide), .str d.1, rfl, p, ?_⟩
      rw [upd_upd]
      have q1 := q _ (sT.trans (same_new (o := .dK (mergeK [] [(Sum.inr "none", .int 0), (Sum.inr "one", .int 1), (Sum.inr "all", .int (2 ^ n - 1))])) hp))
      simp only [List.mem_cons, List.not_mem_nil, or_false] at hm
      rcases hm with hm | hm | hm <;> rw [hm] at q1 ⊢
      · rw [show dvalue "none" (argAt d told 0) (argAt d told 1) (2 ^ n) = 0 from rfl, Int.zero_emod] at q1
        exact ⟨.int 0, rfl, dget_at (k := Sum.inr "none") upd_same rfl, q1⟩
      · rw [show dvalue "one" (argAt d told 0) (argAt d told 1) (2 ^ n) = 1 from rfl, Int.emod_eq_of_lt (by decide) (by omega)] at q1
        exact ⟨.int 1, rfl, dget_at (k := Sum.inr "one") upd_same rfl, q1⟩
      · rw [show dvalue "all" (argAt d told 0) (argAt d told 1) (2 ^ n) = 2 ^ n - 1 from rfl, Int.emod_eq_of_lt (by omega) (by omega)] at q1
        exact ⟨.int (2 ^ n - 1), rfl, dget_at (k := Sum.inr "all") upd_same rfl, q1⟩
    have hn1 : ¬ d.1 ∈ (["none", "one", "all"] : List Str) := fun z => e ((inS d.1 ["none", "one", "all"]).trans (decide_eq_true z))
    simp only [List.mem_cons, List.not_mem_nil, or_false, not_or] at hn1
    obtain ⟨n1, n2, n3⟩ := hn1
    obtain ⟨i, hi, ai, ei⟩ := arg1 ok n1 n2 n3
    refine ⟨.ref L, rfl, .ref r, rfl, r, _, 1, .int i, rfl, rfl, SqT.of (sT _ _ er), dvN (k := 0) hi, L, _, i, .int (argAt d told 0), rfl, rfl, sT.seq eL, ei, ?_⟩
    refine ⟨.str d.1, rfl, by show 3 ≤ sizeLine; decide, fun U hU => ?_⟩
    have sU := sT.trans (same_new (o := .tup [.str "not", .str "neg", .str "twice"]) hU)
    refine ⟨U, _, rfl, .inr (SqT.of upd_same), rfl, rfl, _, rfl, ite2 (fun e => ?_) (fun e => ?_)⟩
    · have hm : d.1 ∈ (["not", "neg", "twice"] : List Str) := of_decide_eq_true ((inS d.1 ["not", "neg", "twice"]).symm.trans e)
      have qa := fun H' s' => q H' s'
      generalize argAt d told 0 = y at qa a0 a1
      generalize argAt d told 1 = z at qa b0 b1
      intro p hp
      have hmul : CMul 2 y := .inl ⟨by decide, by decide⟩
      refine ⟨.int (2 ^ n), rfl, 2 ^ n, 1, rfl, rfl, .int y, rfl, _, y, rfl, rfl, .int y, rfl, 0, y, rfl, rfl, .int y, rfl, 2, y, rfl, rfl, hmul, upd_same, [(Sum.inr "not", .int (2 ^ n - 1 - y)), (Sum.inr "neg", .int (0 - y)), (Sum.inr "twice", .int (2 * y))], rfl, (by show 3 ≤ 15; decide), .str d.1, rfl, p, ?_⟩
      rw [upd_upd]
      have q1 := qa _ (sU.trans (same_new (o := .dK (mergeK [] [(Sum.inr "not", .int (2 ^ n - 1 - y)), (Sum.inr "neg", .int (0 - y)), (Sum.inr "twice", .int (2 * y))])) hp))
      simp only [List.mem_cons, List.not_mem_nil, or_false] at hm
      rcases hm with hm | hm | hm <;> rw [hm] at q1 ⊢
      · exact ⟨.int (2 ^ n - 1 - y), rfl, dget_at (k := Sum.inr "not") upd_same rfl, .int (2 ^ n), rfl, _, _, rfl, rfl, npos, q1⟩
      · rw [show dvalue "neg" y z (2 ^ n) = 0 - y from (Int.zero_sub y).symm] at q1
        exact ⟨.int (0 - y), rfl, dget_at (k := Sum.inr "neg") upd_same rfl, .int (2 ^ n), rfl, _, _, rfl, rfl, npos, q1⟩
      · rw [show dvalue "twice" y z (2 ^ n) = 2 * y from (Int.two_mul y).symm] at q1
        exact ⟨.int (2 * y), rfl, dget_at (k := Sum.inr "twice") upd_same rfl, .int (2 ^ n), rfl, _, _, rfl, rfl, npos, q1⟩
    have hn2 : ¬ d.1 ∈ (["not", "neg", "twice"] : List Str) := fun z => e ((inS d.1 ["not", "neg", "twice"]).trans (decide_eq_true z))
    simp only [List.mem_cons, List.not_mem_nil, or_false, not_or] at hn2
    obtain ⟨n4, n5, n6⟩ := hn2
    obtain ⟨j, hj, aj, ej⟩ := arg2 ok n1 n2 n3 n4 n5 n6
    refine ⟨.ref L, rfl, .ref r, rfl, r, _, 2, .int j, rfl, rfl, SqT.of (sU _ _ er), dvN (k := 1) hj, L, _, j, .int (argAt d told 1), rfl, rfl, sU.seq eL, ej, ?_⟩
    refine ⟨.str d.1, rfl, by show 3 ≤ sizeLine; decide, fun W hW => ?_⟩
    have sW := sU.trans (same_new (o := .tup [.str "and", .str "or", .str "xor"]) hW)
    have hw := ok.word
    have qa := fun H' s' => q H' s'
    generalize argAt d told 0 = y at qa a0 a1
    generalize argAt d told 1 = z at qa b0 b1
    refine ⟨W, _, rfl, .inr (SqT.of upd_same), rfl, rfl, _, rfl, ite2 (fun e => ?_) (fun e => ?_)⟩
    · have hm : d.1 ∈ (["and", "or", "xor"] : List Str) := of_decide_eq_true ((inS d.1 ["and", "or", "xor"]).symm.trans e)
      intro p hp
      refine ⟨.int y, rfl, .int z, rfl, y, z, rfl, rfl, .int y, rfl, .int z, rfl, y, z, rfl, rfl, .int y, rfl, .int z, rfl, y, z, rfl, rfl, upd_same, [(Sum.inr "and", .int (Builtin.bitAnd y z)), (Sum.inr "or", .int (Builtin.bitOr y z)), (Sum.inr "xor", .int (Builtin.bitXor y z))], rfl, (by show 3 ≤ 15; decide), .str d.1, rfl, p, ?_⟩
      rw [upd_upd]
      have q1 := qa _ (sW.trans (same_new (o := .dK (mergeK [] [(Sum.inr "and", .int (Builtin.bitAnd y z)), (Sum.inr "or", .int (Builtin.bitOr y z)), (Sum.inr "xor", .int (Builtin.bitXor y z))])) hp))
      simp only [List.mem_cons, List.not_mem_nil, or_false] at hm
      rcases hm with hm | hm | hm <;> rw [hm] at q1 ⊢
      · rw [show dvalue "and" y z (2 ^ n) = Builtin.bitAnd y z from rfl, and_lt a0 a1 b0] at q1
        exact ⟨_, rfl, dget_at (k := Sum.inr "and") upd_same rfl, q1⟩
      · rw [show dvalue "or" y z (2 ^ n) = Builtin.bitOr y z from rfl, or_lt a0 a1 b0 b1] at q1
        exact ⟨_, rfl, dget_at (k := Sum.inr "or") upd_same rfl, q1⟩
      · rw [show dvalue "xor" y z (2 ^ n) = Builtin.bitXor y z from rfl, xor_lt a0 a1 b0 b1] at q1
        exact ⟨_, rfl, dget_at (k := Sum.inr "xor") upd_same rfl, q1⟩
    · have hn3 : ¬ d.1 ∈ (["and", "or", "xor"] : List Str) := fun z => e ((inS d.1 ["and", "or", "xor"]).trans (decide_eq_true z))
      simp only [List.mem_cons, List.not_mem_nil, or_false, not_or] at hn3
      obtain ⟨n7, n8, n9⟩ := hn3
      have hm : d.1 = "add" ∨ d.1 = "sub" := by
        rcases fw_cases hw with ⟨_, h⟩ | ⟨_, h⟩ | ⟨_, h⟩
        · rcases h with h | h | h
          · exact absurd h n1
          · exact absurd h n2
          · exact absurd h n3
        · rcases h with h | h | h
          · exact absurd h n4
          · exact absurd h n5
          · exact absurd h n6
        · rcases h with h | h | h | h | h
          · exact absurd h n7
          · exact absurd h n8
          · exact absurd h n9
          · exact .inl h
          · exact .inr h
      intro p hp
      refine ⟨.int y, rfl, .int z, rfl, y, z, rfl, rfl, .int y, rfl, .int z, rfl, y, z, rfl, rfl, upd_same, [(Sum.inr "add", .int (y + z)), (Sum.inr "sub", .int (y - z))], rfl, (by show 2 ≤ 15; decide), .str d.1, rfl, p, ?_⟩
      rw [upd_upd]
      have q1 := qa _ (sW.trans (same_new (o := .dK (mergeK [] [(Sum.inr "add", .int (y + z)), (Sum.inr "sub", .int (y - z))])) hp))
      rcases hm with hm | hm <;> rw [hm] at q1 ⊢
      · exact ⟨.int (y + z), rfl, dget_at (k := Sum.inr "add") upd_same rfl, .int (2 ^ n), rfl, _, _, rfl, rfl, npos, q1⟩
      · exact ⟨.int (y - z), rfl, dget_at (k := Sum.inr "sub") upd_same rfl, .int (2 ^ n), rfl, _, _, rfl, rfl, npos, q1⟩
def spLvs (K : PySem.W.Frag) : Sp := fun vs H Q _ => ∃ (R W : Addr) (m o : Int) (ds : List Deed) (xs : List Int) (n : Nat), vs = [.ref R, .int (n : Int), .ref W] ∧ RowAt H R m ds o ∧ DsOk m ds ∧ ds.length ≤ 100 ∧ SqL K H W (xs.map V.int) ∧ (xs.length : Int) = m ∧ xs.length ≤ 100 ∧ 1 ≤ n ∧ n ≤ 1000 ∧ (∀ x ∈ xs, 0 ≤ x ∧ x < 2 ^ n) ∧
  ∀ H' L, Same H H' → H L = none → H' L = some (.lst ((vals (2 ^ n) ds xs).map V.int)) → Q (.ref L) H'
theorem ok_lvs {f fV : Addr} {fd fdV : FuncData} {k : Nat} (F : Fun K "_law_values" "_law_values" s_law_values f fd) (GV : FnOk P w K mg base CX0 (k + 1) fV fdV ["deed", "told", "full"] (spLw K)) (kV : PySem.W.keepIn K (.ref fV) = true) (bV : Binds K fdV ["deed", "told", "full"] [])
    (gV : mg "_law_value" = some (.ref fV)) (ml : mg "list" = none) : FnOk P w K mg base CX0 (k + 2) f fd ["row", "width", "words"] (spLvs K) := by
  refine F.ok sc_law_values (fun vs H Q E h => ?_) (fun cdv A outer s H vs Q E hr h => ?_)
  · obtain ⟨R, W, m, o, ds, xs, n, rfl, _⟩ := h
    rfl
  · obtain ⟨R, W, m, o, ds, xs, n, rfl, hrow, hok, hds, eW, hm, hxs, hn1, hn, hxr, q⟩ := h
    obtain ⟨D, rs, eR, eD, hd⟩ := id hrow
    refine ⟨_, pss_cons (ps_set (i := 3) sc_law_values.nd rfl (.inl rfl) (pe_callTy call_list_of (by rfl) ml (by decide +kernel) (pa_cons (pv 2) pa_nil)))
      (pss_cons (ps_for PassesOwn.never rfl (pi_tup (pe_ix ix_tup (pv 0) pe_int (fun _ _ => rfl))) (pg_name (i := 4) sc_law_values.nd rfl (.inl rfl))
        (pss_one (ps_expr (pe_bm PySem.F.plainAttrs_list PySem.F.slot_list_append PySem.F.type_list_append mt_append (pv 3) (pa_cons (pe_call GV hr (by rfl) gV kV bV .nil pass0 (pa_cons (pv 4) (pa_cons (pv 3) (pa_cons (pe_op op_shl pe_int (pv 1)) pa_nil)))) pa_nil)))))
      (pss_one (ps_ret (pv 3)))), ?_⟩
    have hpos : (0 : Int) < 2 ^ n := Int.pow_pos (by decide)
    have esz : (1 : Int) * 2 ^ ((n : Int).toNat) = 2 ^ n := by rw [Int.one_mul, Int.toNat_natCast]
    refine ⟨.ref W, rfl, W, _, rfl, .inl eW, fun L hL => ?_⟩
    have sL := same_new (o := .lst (xs.map V.int)) hL
    refine ⟨.ref R, rfl, R, _, 1, .ref D, rfl, rfl, SqT.of (sL _ _ eR), rfl, D, rfl, ⟨_, SqT.of (sL _ _ eD)⟩, for_tup (K := K) (a := D) (xs := rs.map V.ref) (fun i σ H3 => ∃ y, σ = [some (.ref R), some (.int n), some (.ref W), some (.ref L), y] ∧ H3 L = some (.lst ((vals (2 ^ n) (ds.take i) xs).map V.int)) ∧ Same H H3) ⟨none, rfl, upd_same, sL⟩ (fun i σ H3 _ hp => ?_) (fun i x σ H3 hx hp => ?_) (fun σ H3 hp => ?_)⟩
    · obtain ⟨_, _, _, sm⟩ := hp
      exact SqT.of (sm _ _ eD)
    · obtain ⟨y, rfl, e3, sm⟩ := hp
      have hi : i < rs.length := by
        have := (List.getElem?_eq_some_iff.mp hx).1
        rwa [List.length_map] at this
      have hx' : x = .ref rs[i] := by
        rw [List.getElem?_map, List.getElem?_eq_getElem hi] at hx
        exact (Option.some.inj hx).symm
      subst hx'
      obtain ⟨d, hd1, hd2⟩ := awGet hd (List.getElem?_eq_getElem hi)
      have hlen : (vals (2 ^ n) (ds.take i) xs).length = xs.length + i := by
        have h2 : i < ds.length := by
          rw [← awLen hd]
          exact hi
        rw [vals_len, List.length_take, Nat.min_eq_left (Nat.le_of_lt h2)]
      have okd : DeedOk (vals (2 ^ n) (ds.take i) xs).length d := by
        rw [hlen]
        have := hok.each i d hd1
        rw [← hm] at this
        exact this
      refine ⟨.ref L, rfl, .inl ⟨rfl, _, .inl (.inl e3)⟩, .ref rs[i], rfl, .ref L, rfl, .int n, rfl, 1, n, rfl, rfl, ⟨by omega, by omega, by decide⟩, rs[i], L, d, _, n, congrArg (fun z => [V.ref rs[i], V.ref L, V.int z]) esz, sm _ _ hd2, .inl (.inl e3), okd, vals_range hpos _ _ hxr, hn1, fun H4 s4 => ?_⟩
      refine ⟨L, _, _, rfl, rfl, s4 _ _ e3, ?_, some (.ref rs[i]), rfl, ?_, ?_⟩
      · rw [List.length_map, hlen]
        exact small1000 (by rw [awLen hd] at hi; omega)
      · rw [upd_same, vals_next hd1, List.map_append]
        rfl
      · intro b u e
        rw [upd_ne (ne_of_none e hL)]
        exact s4 b u (sm b u e)
    · obtain ⟨y, rfl, e3, sm⟩ := hp
      rw [List.length_map, awLen hd, List.take_length] at e3
      exact ⟨.ref L, rfl, q H3 L sm hL e3⟩
/-! ### _law_long_row -/
def spLr46 : Sp := fun vs H Q _ => ∃ (a : Addr) (m : Nat), vs = [.ref a, .int (m : Int)] ∧ 1 ≤ m ∧ m ≤ 3 ∧ TP H a ∧ ∀ H' R ds o, RowAt H' R (m : Int) ds o → RowOk (m : Int) ds o → TP H' a → But a H H' → Q (.ref R) H'
theorem dk2 {m i j : Int} {x : Str} (hx : (x, (2 : Int)) ∈ fwL) (hi : 0 ≤ i ∧ i < m) (hj : 0 ≤ j ∧ j < m) : DeedOk m (x, [i, j]) := ⟨hx, fun y hy => by
  rcases List.mem_cons.mp hy with rfl | hy
  · exact hi
  · rw [List.mem_singleton.mp hy]
    exact hj⟩
theorem dk1 {m i : Int} {x : Str} (hx : (x, (1 : Int)) ∈ fwL) (hi : 0 ≤ i ∧ i < m) : DeedOk m (x, [i]) := ⟨hx, fun y hy => by
  rw [List.mem_singleton.mp hy]
  exact hi⟩
set_option maxHeartbeats 2000000 in
theorem ok_lr46 {f fD fE fC fR : Addr} {fd fdD fdE fdC fdR : FuncData} {k : Nat} (F : Fun K "_law_long_row" "_law_long_row" s_law_long_row f fd)
    (GD : FnOk P w K mg base CX0 (k + 1) fD fdD ["tape", "many"] spDigit) (kD : PySem.W.keepIn K (.ref fD) = true) (bD : Binds K fdD ["tape", "many"] []) (gD : mg "_law_digit" = some (.ref fD))
    (GE : FnOk P w K mg base CX0 (k + 2) fE fdE ["tape", "ahead", "left"] spTd) (kE : PySem.W.keepIn K (.ref fE) = true) (bE : Binds K fdE ["tape", "ahead", "left"] []) (gE : mg "_law_deed" = some (.ref fE))
    (GC : FnOk P w K mg base CX0 (k + 1) fC fdC ["deeds"] (spCr K)) (kC : PySem.W.keepIn K (.ref fC) = true) (bC : Binds K fdC ["deeds"] []) (gC : mg "_law_carrying" = some (.ref fC))
    (GR : FnOk P w K mg base CX0 (k + 3) fR fdR ["tape", "many", "most", "left"] spTr) (kR : PySem.W.keepIn K (.ref fR) = true) (bR : Binds K fdR ["tape", "many", "most", "left"] []) (gR : mg "_law_row" = some (.ref fR))
    (mt : mg "tuple" = none) (mr : mg "range" = none) : FnOk P w K mg base CX0 (k + 4) f fd ["tape", "many"] spLr46 := by
  refine F.ok sc_law_long_row (fun vs H Q E h => ?_) (fun cdv A outer s H vs Q E hr h => ?_)
  · obtain ⟨a, m, rfl, _⟩ := h
    rfl
  · obtain ⟨a, m, rfl, hm, hm3, ht, q⟩ := h
    have r1 := hr.mono (show k + 1 ≤ k + 3 by omega)
    have r2 := hr.mono (show k + 2 ≤ k + 3 by omega)
    refine ⟨_, pss_cons (ps_set (i := 2) sc_law_long_row.nd rfl (.inl rfl) (pe_ix ix_list (pe_lst (pa_cons pe_int (pa_cons pe_int (pa_cons pe_int pa_nil)))) (pe_op op_sub (pv 1) pe_int) (fun _ _ => rfl)))
    (pss_cons (ps_if (pt_cmpR op_eq (pe_call GD r1 (by rfl) gD kD bD .nil pass0 (pa_cons (pv 0) (pa_cons pe_int pa_nil))) pe_int (nomark _))
    (pss_one (ps_ret (pe_call GR hr (by rfl) gR kR bR .nil pass0 (pa_cons (pv 0) (pa_cons (pv 1) (pa_cons pe_int (pa_cons (pv 2) pa_nil)))))))
    pss_nil)
    (pss_cons (ps_set (i := 3) sc_law_long_row.nd rfl (.inl rfl) (pe_lst pa_nil))
    (pss_cons (ps_for PassesOwn.never rfl (pi_range1 (by rfl) mr (pa_cons pe_int pa_nil)) (pg_name (i := 4) sc_law_long_row.nd rfl (.inl rfl))
    (pss_cons (ps_set (i := 5) sc_law_long_row.nd rfl (.inl rfl) (pe_call GE r2 (by rfl) gE kE bE .nil pass0 (pa_cons (pv 0) (pa_cons (pe_op op_add (pv 1) (pv 4)) (pa_cons (pe_op op_sub (pv 2) (pe_call GC r1 (by rfl) gC kC bC .nil pass0 (pa_cons (pv 3) pa_nil))) pa_nil)))))
    (pss_mid (ps_if (PW.pt (pw_and (pt_cmpR op_eq (pe_call GD r1 (by rfl) gD kD bD .nil pass0 (pa_cons (pv 0) (pa_cons pe_int pa_nil))) pe_int (nomark _)) (pw_and1 (pt_cmpR op_lt (pe_call GC r1 (by rfl) gC kC bC .nil pass0 (pa_cons (pv 3) pa_nil)) (pv 2) (nomark _)))))
    (pss_cons (ps_set (i := 6) sc_law_long_row.nd rfl (.inl rfl) (pe_tup (pa_cons (pe_call GD r1 (by rfl) gD kD bD .nil pass0 (pa_cons (pv 0) (pa_cons (pe_op op_add (pv 1) (pv 4)) pa_nil))) (pa_cons (pe_op op_sub (pe_op op_add (pv 1) (pv 4)) pe_int) pa_nil))))
    (pss_cons (ps_set (i := 5) sc_law_long_row.nd rfl (.inl rfl) (pe_lst (pa_cons (pe_op op_catZ (pe_tup (pa_cons pe_str pa_nil)) (pv 6)) (pa_cons (pe_op op_catZ (pe_tup (pa_cons pe_str pa_nil)) (pv 6)) (pa_cons (pe_tup (pa_cons pe_str (pa_cons (pe_op op_sub (pe_op op_add (pv 1) (pv 4)) pe_int) pa_nil))) (pa_cons (pe_tup (pa_cons pe_str (pa_cons (pe_op op_sub (pe_op op_add (pv 1) (pv 4)) pe_int) pa_nil))) pa_nil))))))
    (pss_one (ps_set (i := 5) sc_law_long_row.nd rfl (.inl rfl) (pe_ix ix_list (pv 5) (pe_call GD r1 (by rfl) gD kD bD .nil pass0 (pa_cons (pv 0) (pa_cons pe_int pa_nil))) (fun _ _ => rfl))))))
    pss_nil)
    (pss_one (ps_expr (pe_bm PySem.F.plainAttrs_list PySem.F.slot_list_append PySem.F.type_list_append mt_append (pv 3) (pa_cons (pv 5) pa_nil)))))))
    (pss_one (ps_ret (pe_tup (pa_cons (pv 1) (pa_cons (pe_callTy call_tuple_of (by rfl) mt (by decide +kernel) (pa_cons (pv 3) pa_nil)) (pa_cons (pe_op op_add (pv 1) pe_int) pa_nil))))))))), ?_⟩
    refine ⟨(by show 3 ≤ sizeLine; decide), fun L3 hL3 => ?_⟩
    have sL3 := same_new (o := .lst [.int 8, .int 6, .int 5]) hL3
    have t1 := ht.same sL3
    obtain ⟨lf, hlf, lf0⟩ : ∃ lf : Int, atI [V.int 8, .int 6, .int 5] ((m : Int) - 1) = some (.int lf) ∧ 0 ≤ lf := by
      have h3 : m = 1 ∨ m = 2 ∨ m = 3 := by omega
      rcases h3 with rfl | rfl | rfl
      · exact ⟨8, rfl, by decide⟩
      · exact ⟨6, rfl, by decide⟩
      · exact ⟨5, rfl, by decide⟩
    refine ⟨.int (m : Int), rfl, _, _, rfl, rfl, L3, _, _, .int lf, rfl, rfl, .inl (.inl upd_same), hlf, ?_⟩
    refine ⟨.ref a, rfl, a, 2, rfl, by decide, by decide, t1, fun H1 z z0 z1 t1 b1 => ⟨rfl, _, rfl, ite2 (fun _ => ?_) (fun _ => ?_)⟩⟩
    · refine ⟨.ref a, rfl, .int (m : Int), rfl, .int lf, rfl, a, (m : Int), 8, lf, rfl, by omega, by omega, by decide, by decide, t1, fun H2 R ds o hrow ok _ _ t2 b2 => ?_⟩
      exact q H2 R ds o hrow ok t2 ((But.same sL3).trans (b1.trans b2))
    have b01 : But a H H1 := (But.same sL3).trans b1
    refine ⟨Nat.zero_le _, fun D hD => ?_⟩
    have nD := t1.ne_new hD
    have sD := same_new (o := .lst []) hD
    refine ⟨8, rfl, by decide, by decide, for_range (lo := 0) (n := 8) (fun i σ H3 => ∃ y4 y5 y6 rs ds, σ = [some (.ref a), some (.int (m : Int)), some (.int lf), some (.ref D), y4, y5, y6] ∧ H3 D = some (.lst (rs.map V.ref)) ∧ DsAt H3 rs ds ∧ ds.length = i ∧ DsOk m ds ∧ TP H3 a ∧ But a H1 H3)
      ⟨none, none, none, [], [], rfl, upd_same, .nil, rfl, ⟨fun k d e => by simp at e⟩, t1.same sD, But.same sD⟩ (fun i σ H3 hi hp => ?_) (fun σ H3 hp => ?_)⟩
    · obtain ⟨y4, y5, y6, rs, ds, rfl, eD, hd, hl, ok, t3, b3⟩ := hp
      have rl := awLen hd
      refine ⟨.ref a, rfl, .int (m : Int), rfl, .int (0 + (i : Int)), rfl, (m : Int), 0 + (i : Int), rfl, rfl, .int lf, rfl, .ref D, rfl, D, rs, ds, rfl, .inl (.inl eD), hd, by omega, fun H4 s4 => ?_⟩
      refine ⟨lf, carN ds, rfl, rfl, a, (m : Int) + (0 + i), lf - carN ds, rfl, by omega, by omega, t3.same s4, fun H5 r d hok hcalm er t5 b5 => ?_⟩
      have eD5 := b5 _ _ nD (s4 _ _ eD)
      have hd5 := (b5.tape (t3.same s4)).ds ((Same.tups s4).ds hd)
      have b35 : But a H1 H5 := b3.trans ((But.same s4).trans b5)
      refine ⟨fun σ6 H6 => ∃ y6 r' d', σ6 = [some (.ref a), some (.int (m : Int)), some (.int lf), some (.ref D), some (.int (0 + (i : Int))), some (.ref r'), y6] ∧ DeedOk ((m : Int) + i) d' ∧ H6 r' = some (.tup (dV d')) ∧ TP H6 a ∧ But a H5 H6, ?_, ?_⟩
      · have okd : DeedOk ((m : Int) + i) d := by
          rw [show (m : Int) + i = (m : Int) + (0 + i) by omega]
          exact hok
        refine ⟨.ref a, rfl, a, 3, rfl, by decide, by decide, t5, fun H6 u u0 u1 t6 b6 => ⟨rfl, _, rfl, ite2 (fun e => ?_) (fun e => ?_)⟩⟩
        · refine ⟨.ref D, rfl, D, rs, ds, rfl, .inl (.inl (b6 _ _ nD eD5)), (b6.tape t5).ds hd5, by omega, fun H7 s7 => ?_⟩
          refine ⟨.int lf, rfl, _, _, rfl, rfl, _, rfl, ite2 (fun e2 => ?_) (fun e2 => ?_)⟩
          · have t7 := t6.same s7
            refine ⟨.ref a, rfl, .int (m : Int), rfl, .int (0 + (i : Int)), rfl, _, _, rfl, rfl, a, _, rfl, by omega, by omega, t7, fun H8 v v0 v1 t8 b8 => ?_⟩
            refine ⟨.int (m : Int), rfl, .int (0 + (i : Int)), rfl, _, _, rfl, rfl, _, 1, rfl, rfl, (by show 2 ≤ sizeLine; decide), fun N hN => ?_⟩
            obtain ⟨M, hM⟩ : ∃ M : Int, M = (m : Int) + (0 + (i : Int)) := ⟨_, rfl⟩
            rw [← hM] at v1 ⊢
            have M1 : 1 ≤ M := by omega
            have sN := same_new (o := .tup [.int v, .int (M - 1)]) hN
            have eN := upd_same (H := H8) (a := N) (o := .tup [.int v, .int (M - 1)])
            refine ⟨(by show 1 ≤ sizeLine; decide), fun A1 hA1 => ⟨.ref N, rfl, A1, N, [.str "add"], [.int v, .int (M - 1)], rfl, rfl, upd_same, same_new hA1 _ _ eN, (by show 3 ≤ sizeLine; decide), fun B1 H9 s9 eB1 => ?_⟩⟩
            have s89 := (same_new (o := .tup [.str "add"]) hA1).trans s9
            refine ⟨(by show 1 ≤ sizeLine; decide), fun A2 hA2 => ⟨.ref N, rfl, A2, N, [.str "sub"], [.int v, .int (M - 1)], rfl, rfl, upd_same, same_new hA2 _ _ (s89 _ _ eN), (by show 3 ≤ sizeLine; decide), fun B2 H10 s10 eB2 => ?_⟩⟩
            have s810 := s89.trans ((same_new (o := .tup [.str "sub"]) hA2).trans s10)
            refine ⟨.int (m : Int), rfl, .int (0 + (i : Int)), rfl, _, _, rfl, rfl, _, 1, rfl, rfl, (by show 2 ≤ sizeLine; decide), fun B3 hB3 => ?_⟩
            rw [← hM]
            have sB3 := same_new (o := .tup [.str "twice", .int (M - 1)]) hB3
            refine ⟨.int (m : Int), rfl, .int (0 + (i : Int)), rfl, _, _, rfl, rfl, _, 1, rfl, rfl, (by show 2 ≤ sizeLine; decide), fun B4 hB4 => ?_⟩
            rw [← hM]
            have sB4 := same_new (o := .tup [.str "neg", .int (M - 1)]) hB4
            refine ⟨(by show 4 ≤ sizeLine; decide), fun G hG => ?_⟩
            have sG := same_new (o := .lst [.ref B1, .ref B2, .ref B3, .ref B4]) hG
            have e1 := sG _ _ (sB4 _ _ (sB3 _ _ (s10 _ _ (same_new (o := .tup [.str "sub"]) hA2 _ _ eB1))))
            have e2 := sG _ _ (sB4 _ _ (sB3 _ _ eB2))
            have e3 := sG _ _ (sB4 _ _ (upd_same (H := H10) (a := B3) (o := .tup [.str "twice", .int (M - 1)])))
            have e4 := sG _ _ (upd_same (H := upd H10 B3 (.tup [.str "twice", .int (M - 1)])) (a := B4) (o := .tup [.str "neg", .int (M - 1)]))
            have eG := upd_same (H := upd (upd H10 B3 (.tup [.str "twice", .int (M - 1)])) B4 (.tup [.str "neg", .int (M - 1)])) (a := G) (o := .lst [.ref B1, .ref B2, .ref B3, .ref B4])
            have s8g := sN.trans (s810.trans (sB3.trans (sB4.trans sG)))
            obtain ⟨Hg, hHg⟩ : ∃ Hg, Hg = upd (upd (upd H10 B3 (.tup [.str "twice", .int (M - 1)])) B4 (.tup [.str "neg", .int (M - 1)])) G (.lst [.ref B1, .ref B2, .ref B3, .ref B4]) := ⟨_, rfl⟩
            rw [← hHg] at e1 e2 e3 e4 eG s8g ⊢
            have tg := t8.same s8g
            have nG : G ≠ a := by
              obtain ⟨x, y, e⟩ := tg
              exact ne_of eG e (fun z => by cases z)
            refine ⟨.ref G, rfl, .ref a, rfl, a, 4, rfl, by decide, by decide, tg, fun H11 x x0 x1 t11 b11 => ?_⟩
            have ts11 := b11.tape tg
            obtain ⟨r', d', hx, okd', er'⟩ : ∃ (r' : Addr) (d' : Deed), atI [V.ref B1, .ref B2, .ref B3, .ref B4] x = some (.ref r') ∧ DeedOk ((m : Int) + i) d' ∧ Hg r' = some (.tup (dV d')) := by
              have hmi : (m : Int) + i = M := by omega
              rw [hmi]
              have h4 : x = 0 ∨ x = 1 ∨ x = 2 ∨ x = 3 := by omega
              rcases h4 with rfl | rfl | rfl | rfl
              · exact ⟨B1, ("add", [v, M - 1]), rfl, dk2 (by decide +kernel) ⟨v0, v1⟩ ⟨by omega, by omega⟩, e1⟩
              · exact ⟨B2, ("sub", [v, M - 1]), rfl, dk2 (by decide +kernel) ⟨v0, v1⟩ ⟨by omega, by omega⟩, e2⟩
              · exact ⟨B3, ("twice", [M - 1]), rfl, dk1 (by decide +kernel) ⟨by omega, by omega⟩, e3⟩
              · exact ⟨B4, ("neg", [M - 1]), rfl, dk1 (by decide +kernel) ⟨by omega, by omega⟩, e4⟩
            refine ⟨G, _, x, .ref r', rfl, rfl, .inl (.inl (b11 _ _ nG eG)), hx, ?_⟩
            exact ⟨_, r', d', rfl, okd', ts11 _ _ er', t11, b6.trans ((But.same s7).trans (b8.trans ((But.same s8g).trans b11)))⟩
          · exact ⟨_, r, d, rfl, okd, s7 _ _ (b6.tape t5 _ _ er), t6.same s7, b6.trans (But.same s7)⟩
        · exact ⟨_, r, d, rfl, okd, b6.tape t5 _ _ er, t6, b6⟩
      · rintro σ6 H6 ⟨y6, r', d', rfl, okd', er', t6, b6⟩
        have eD6 := b6 _ _ nD eD5
        refine ⟨.ref D, rfl, .inl ⟨rfl, _, .inl (.inl eD6)⟩, .ref r', rfl, D, _, _, rfl, rfl, eD6, ?_, _, _, _, rs ++ [r'], ds ++ [d'], rfl, ?_, ?_, ?_, ?_, t6.upd nD, ?_⟩
        · rw [List.length_map, rl]
          exact small1000 (by omega)
        · rw [upd_same, List.map_append]
          rfl
        · exact (tups_put eD6).ds (awSnoc (F := fun r d => H6 r = some (.tup (dV d))) er' ((b6.tape t5).ds hd5))
        · rw [List.length_append, hl]
          rfl
        · refine dsOk_snoc ok ?_
          rw [hl]
          exact okd'
        · intro b o nb e
          rw [upd_ne (ne_of_none e hD)]
          exact b6 b o nb (b35 b o nb e)
    · obtain ⟨y4, y5, y6, rs, ds, rfl, eD, hd, hl, ok, t3, b3⟩ := hp
      refine ⟨.int (m : Int), rfl, .ref D, rfl, D, _, rfl, .inl ⟨.inl (.inl eD), fun T hT => ?_⟩⟩
      refine ⟨.int (m : Int), rfl, _, 7, rfl, rfl, by show 3 ≤ sizeLine; decide, fun R hR => ?_⟩
      have s1 : Same H3 (upd H3 T (.tup (rs.map V.ref))) := same_new hT
      have s2 := same_new (o := .tup [.int (m : Int), .ref T, .int ((m : Int) + 7)]) hR
      exact q _ R ds ((m : Int) + 7) ⟨T, rs, upd_same, s2 _ _ upd_same, (Same.tups (s1.trans s2)).ds hd⟩ ⟨by omega, by omega, by omega, ok, by omega, by omega⟩ (t3.same (s1.trans s2)) (b01.trans (b3.trans (But.same (s1.trans s2))))
/-! ### _law_otherwise: deeds that carry on alike -/
inductive Oth : Deed → Deed → Prop
  | same (d : Deed) : Oth d d
  | turn {x : Str} {i j : Int} (h : x = "and" ∨ x = "or" ∨ x = "xor") : Oth (x, [i, j]) (x, [j, i])
  | sum {i : Int} : Oth ("twice", [i]) ("add", [i, i])
  | swap {i j : Int} : Oth ("add", [i, j]) ("add", [j, i])
  | back {i : Int} : Oth ("add", [i, i]) ("twice", [i])
theorem Oth.ok {m : Int} {d d' : Deed} (h : Oth d d') (ok : DeedOk m d) : DeedOk m d' := by
  cases h with
  | same => exact ok
  | turn h => exact ⟨ok.word, fun y hy => ok.ahead y (by simp only [List.mem_cons, List.not_mem_nil, or_false] at hy ⊢; exact hy.symm)⟩
  | sum => exact ⟨(by decide +kernel : (("add" : Str), (2 : Int)) ∈ fwL), fun y hy => ok.ahead y (by simp only [List.mem_cons, List.not_mem_nil, or_false] at hy ⊢; exact hy.elim id id)⟩
  | swap => exact ⟨(by decide +kernel : (("add" : Str), (2 : Int)) ∈ fwL), fun y hy => ok.ahead y (by simp only [List.mem_cons, List.not_mem_nil, or_false] at hy ⊢; exact hy.symm)⟩
  | back => exact ⟨(by decide +kernel : (("twice" : Str), (1 : Int)) ∈ fwL), fun y hy => ok.ahead y (by simp only [List.mem_cons, List.not_mem_nil, or_false] at hy ⊢; exact .inl hy)⟩
theorem Oth.fc {d d' : Deed} (h : Oth d d') : fcD d' = fcD d := by
  cases h with
  | same => rfl
  | turn h => rfl
  | @sum i => exact (by decide +kernel : (if ("add" : Str) ∈ (["neg", "one"] : List Str) then (1 : Int) else 0) = if ("twice" : Str) ∈ (["neg", "one"] : List Str) then 1 else 0)
  | swap => rfl
  | @back i => exact (by decide +kernel : (if ("twice" : Str) ∈ (["neg", "one"] : List Str) then (1 : Int) else 0) = if ("add" : Str) ∈ (["neg", "one"] : List Str) then 1 else 0)
theorem oth_sem {x : Str} {a b c : Int} (ha : Bit a) (hb : Bit b) (hc : Bit c) (h : x = "and" ∨ x = "or" ∨ x = "xor" ∨ x = "add") : dbit x b a c = dbit x a b c ∧ dcar x b a c = dcar x a b c := by
  rcases h with rfl | rfl | rfl | rfl <;> rcases ha with rfl | rfl <;> rcases hb with rfl | rfl <;> rcases hc with rfl | rfl <;> decide +kernel
theorem oth_two {a c : Int} (ha : Bit a) (hc : Bit c) (z : Int) : dbit "add" a a c = dbit "twice" a z c ∧ dcar "add" a a c = dcar "twice" a z c := by
  have e1 : dbit "twice" a z c = dbit "twice" a 0 c := rfl
  have e2 : dcar "twice" a z c = dcar "twice" a 0 c := rfl
  rw [e1, e2]
  rcases ha with rfl | rfl <;> rcases hc with rfl | rfl <;> decide +kernel
theorem Oth.at {d d' : Deed} (h : Oth d d') {c : Int} {told : List Int} (hc : Bit c) (ht : ∀ x ∈ told, Bit x) : dbitAt d' c told = dbitAt d c told ∧ dcarAt d' c told = dcarAt d c told := by
  have b : ∀ (d : Deed) (j : Nat), Bit (argAt d told j) := fun d j => argAt_bit ht d j
  cases h with
  | same => exact ⟨rfl, rfl⟩
  | @turn x i j h => exact oth_sem (x := x) (b (x, [i, j]) 0) (b (x, [i, j]) 1) hc (h.elim .inl fun z => z.elim (fun y => .inr (.inl y)) fun y => .inr (.inr (.inl y)))
  | @sum i => exact oth_two (b ("twice", [i]) 0) hc _
  | @swap i j => exact oth_sem (x := "add") (b ("add", [i, j]) 0) (b ("add", [i, j]) 1) hc (.inr (.inr (.inr rfl)))
  | @back i =>
    have e := oth_two (b ("twice", [i]) 0) hc (argAt ("twice", [i]) told 1)
    exact ⟨e.1.symm, e.2.symm⟩
abbrev Oths : List Deed → List Deed → Prop := Paired Oth
theorem oths_bts : ∀ {ds ds' : List Deed}, Oths ds ds' → ∀ {c t : List Int}, (∀ x ∈ c, Bit x) → (∀ x ∈ t, Bit x) → bts ds' c t = bts ds c t
  | _, _, .nil, _, _, _, _ => rfl
  | _, _, .cons (a := d) (b := d') h hs, [], t, _, _ => rfl
  | _, _, .cons (a := d) (b := d') (l₁ := ds) (l₂ := ds') h hs, x :: c, t, hc, ht => by
    have hx := hc x List.mem_cons_self
    show bts ds' c (t ++ [dbitAt d' x t]) = bts ds c (t ++ [dbitAt d x t])
    rw [(h.at hx ht).1]
    refine oths_bts hs (fun y hy => hc y (List.mem_cons_of_mem _ hy)) fun y hy => ?_
    rcases List.mem_append.mp hy with hy | hy
    · exact ht y hy
    · rw [List.mem_singleton.mp hy]
      exact dbit_bit (argAt_bit ht d 0) (argAt_bit ht d 1) hx
theorem oths_nxt : ∀ {ds ds' : List Deed}, Oths ds ds' → ∀ {c t : List Int}, (∀ x ∈ c, Bit x) → (∀ x ∈ t, Bit x) → nxt ds' c t = nxt ds c t
  | _, _, .nil, _, _, _, _ => rfl
  | _, _, .cons (a := d) (b := d') h hs, [], t, _, _ => rfl
  | _, _, .cons (a := d) (b := d') (l₁ := ds) (l₂ := ds') h hs, x :: c, t, hc, ht => by
    show dcarAt d' x t :: nxt ds' c t = dcarAt d x t :: nxt ds c t
    rw [(h.at (hc x List.mem_cons_self) ht).2, oths_nxt hs (fun y hy => hc y (List.mem_cons_of_mem _ hy)) ht]
theorem oths_fc : ∀ {ds ds' : List Deed}, Oths ds ds' → ds'.map fcD = ds.map fcD
  | _, _, .nil => rfl
  | _, _, .cons h hs => by rw [List.map_cons, List.map_cons, h.fc, oths_fc hs]
theorem oths_ok {m : Int} {ds ds' : List Deed} (h : Oths ds ds') (ok : DsOk m ds) : DsOk m ds' := ⟨fun k d e => by
  obtain ⟨d0, e0, z⟩ := awGet2 h e
  exact z.ok (ok.each k d0 e0)⟩
theorem oths_one {m : Nat} {ds ds' : List Deed} (h : Oths ds ds') : ∀ (t : Nat) (q : PC), RtS m ds ds' t q → q.2 = q.1 ∧ ∀ x ∈ q.1, Bit x
  | 0, q, e => by
    have e' : q = _ := e
    rw [e']
    refine ⟨oths_fc h, fun x hx => ?_⟩
    obtain ⟨d, _, rfl⟩ := List.mem_map.mp hx
    unfold fcD
    split
    · exact bit1
    · exact bit0
  | t + 1, q, ⟨q0, bs, h0, hb, e⟩ => by
    obtain ⟨e1, e2⟩ := oths_one h t q0 h0
    have hbs := (allB_ok m bs hb).2
    rw [e]
    show nc ds' q0.2 bs = nc ds q0.1 bs ∧ ∀ x ∈ nc ds q0.1 bs, Bit x
    unfold nc
    rw [e1, oths_bts h e2 hbs, oths_nxt h e2 (bts_bits hbs e2)]
    exact ⟨rfl, nxt_bits (bts_bits hbs e2) e2⟩
theorem oths_nv {m : Nat} {ds ds' : List Deed} {o : Int} (h : Oths ds ds') (t : Nat) : ¬ PrtS m ds o ds' o t := by
  rintro ⟨q, bs, hq, hb, ne⟩
  obtain ⟨e1, e2⟩ := oths_one h t q hq
  apply ne
  unfold ob
  rw [e1, oths_bts h e2 (allB_ok m bs hb).2]
def spOt : Sp := fun vs H Q _ => ∃ (a R : Addr) (m : Nat) (o : Int) (ds : List Deed), vs = [.ref a, .ref R] ∧ TP H a ∧ RowAt H R (m : Int) ds o ∧ RowOk (m : Int) ds o ∧
  ∀ H' R' ds', RowAt H' R' (m : Int) ds' o → RowOk (m : Int) ds' o → Oths ds ds' → TP H' a → But a H H' → Q (.ref R') H'
theorem dvI1 {x : Str} {i : Int} : dV (x, [i]) = [.str x, .int i] := rfl
theorem dvI2 {x : Str} {i j : Int} : dV (x, [i, j]) = [.str x, .int i, .int j] := rfl
set_option maxHeartbeats 2000000 in
theorem ok_ot {f fD : Addr} {fd fdD : FuncData} {k : Nat} (F : Fun K "_law_otherwise" "_law_otherwise" s_law_otherwise f fd)
    (GD : FnOk P w K mg base CX0 (k + 1) fD fdD ["tape", "many"] spDigit) (kD : PySem.W.keepIn K (.ref fD) = true) (bD : Binds K fdD ["tape", "many"] []) (gD : mg "_law_digit" = some (.ref fD))
    (mt : mg "tuple" = none) : FnOk P w K mg base CX0 (k + 2) f fd ["tape", "row"] spOt := by
  refine F.ok sc_law_otherwise (fun vs H Q E h => ?_) (fun cdv A outer s H vs Q E hr h => ?_)
  · obtain ⟨a, R, m, o, ds, rfl, _⟩ := h
    rfl
  · obtain ⟨a, R, m, o, ds, rfl, tp, hrow, ok, q⟩ := h
    refine ⟨_, pss_cons (ps_set (i := 2) sc_law_otherwise.nd rfl (.inl rfl) (pe_lst pa_nil))
    (pss_cons (ps_for PassesOwn.never rfl (pi_tup (pe_ix ix_tup (pv 1) pe_int (fun _ _ => rfl))) (pg_name (i := 3) sc_law_otherwise.nd rfl (.inl rfl))
    (pss_cons (ps_set (i := 4) sc_law_otherwise.nd rfl (.inl rfl) (pe_cmpR op_eq (pe_call GD hr (by rfl) gD kD bD .nil pass0 (pa_cons (pv 0) (pa_cons pe_int pa_nil))) pe_int (nomark _)))
    (pss_mid (ps_if (PW.pt (pw_and (pt_val (pv 4)) (pw_and1 (pt_cmpR op_in_seq (pe_ix ix_tup (pv 3) pe_int (fun _ _ => rfl)) (pe_tup (pa_cons pe_str (pa_cons pe_str (pa_cons pe_str pa_nil)))) (by rfl)))))
    (pss_one (ps_set (i := 3) sc_law_otherwise.nd rfl (.inl rfl) (pe_tup (pa_cons (pe_ix ix_tup (pv 3) pe_int (fun _ _ => rfl)) (pa_cons (pe_ix ix_tup (pv 3) pe_int (fun _ _ => rfl)) (pa_cons (pe_ix ix_tup (pv 3) pe_int (fun _ _ => rfl)) pa_nil))))))
    (pss_one (ps_if (PW.pt (pw_and (pt_val (pv 4)) (pw_and1 (pt_cmpR op_eq (pe_ix ix_tup (pv 3) pe_int (fun _ _ => rfl)) pe_str (nomark _)))))
    (pss_one (ps_set (i := 3) sc_law_otherwise.nd rfl (.inl rfl) (pe_tup (pa_cons pe_str (pa_cons (pe_ix ix_tup (pv 3) pe_int (fun _ _ => rfl)) (pa_cons (pe_ix ix_tup (pv 3) pe_int (fun _ _ => rfl)) pa_nil))))))
    (pss_one (ps_if (PW.pt (pw_and (pt_val (pv 4)) (pw_and1 (pt_cmpR op_eq (pe_ix ix_tup (pv 3) pe_int (fun _ _ => rfl)) pe_str (nomark _)))))
    (pss_cons (ps_set (i := 3) sc_law_otherwise.nd rfl (.inl rfl) (pe_tup (pa_cons pe_str (pa_cons (pe_ix ix_tup (pv 3) pe_int (fun _ _ => rfl)) (pa_cons (pe_ix ix_tup (pv 3) pe_int (fun _ _ => rfl)) pa_nil)))))
    (pss_one (ps_if (pt_cmpR op_eq (pe_ix ix_tup (pv 3) pe_int (fun _ _ => rfl)) (pe_ix ix_tup (pv 3) pe_int (fun _ _ => rfl)) (nomark _))
    (pss_one (ps_set (i := 3) sc_law_otherwise.nd rfl (.inl rfl) (pe_tup (pa_cons pe_str (pa_cons (pe_ix ix_tup (pv 3) pe_int (fun _ _ => rfl)) pa_nil)))))
    pss_nil)))
    pss_nil)))))
    (pss_one (ps_expr (pe_bm PySem.F.plainAttrs_list PySem.F.slot_list_append PySem.F.type_list_append mt_append (pv 2) (pa_cons (pv 3) pa_nil)))))))
    (pss_one (ps_ret (pe_tup (pa_cons (pe_ix ix_tup (pv 1) pe_int (fun _ _ => rfl)) (pa_cons (pe_callTy call_tuple_of (by rfl) mt (by decide +kernel) (pa_cons (pv 2) pa_nil)) (pa_cons (pe_ix ix_tup (pv 1) pe_int (fun _ _ => rfl)) pa_nil))))))), ?_⟩
    obtain ⟨D, rs, eR, eD, hd⟩ := id hrow
    have rl := awLen hd
    have l8 := ok.len
    refine ⟨Nat.zero_le _, fun Fo hFo => ?_⟩
    have nF := tp.ne_new hFo
    have sF := same_new (o := .lst []) hFo
    have t1 := tp.same sF
    have hd1 := (Same.tups sF).ds hd
    refine ⟨.ref R, rfl, R, _, 1, .ref D, rfl, rfl, SqT.of (sF _ _ eR), rfl, D, rfl, ⟨_, SqT.of (sF _ _ eD)⟩, for_tup (K := K) (a := D) (xs := rs.map V.ref) (fun i σ H3 => ∃ y3 y4 gs es, σ = [some (.ref a), some (.ref R), some (.ref Fo), y3, y4] ∧ H3 Fo = some (.lst (gs.map V.ref)) ∧ DsAt H3 gs es ∧ Oths (ds.take i) es ∧ TP H3 a ∧ But a H H3)
      ⟨none, none, [], [], rfl, upd_same, .nil, .nil, t1, But.same sF⟩ (fun i σ H3 _ hp => ?_) (fun i x σ H3 hx hp => ?_) (fun σ H3 hp => ?_)⟩
    · obtain ⟨_, _, _, _, _, _, _, _, _, b3⟩ := hp
      exact SqT.of (b3.tape tp _ _ eD)
    · obtain ⟨y3, y4, gs, es, rfl, eF, hg, os, t3, b3⟩ := hp
      have hi : i < rs.length := by
        have := (List.getElem?_eq_some_iff.mp hx).1
        rwa [List.length_map] at this
      have hx' : x = .ref rs[i] := by
        rw [List.getElem?_map, List.getElem?_eq_getElem hi] at hx
        exact (Option.some.inj hx).symm
      subst hx'
      obtain ⟨d, hd1, hd2⟩ := awGet hd (List.getElem?_eq_getElem hi)
      have okd := ok.deeds.each i d hd1
      obtain ⟨r, hr'⟩ : ∃ r, r = rs[i] := ⟨_, rfl⟩
      rw [← hr'] at hd2 ⊢
      have gl := awLen hg
      have el := awLen os
      rw [List.length_take] at el
      refine ⟨.ref a, rfl, a, 2, rfl, by decide, by decide, t3, fun H4 z z0 z1 t4 b4 => ?_⟩
      have b04 := b3.trans b4
      have ed4 := b04.tape tp _ _ hd2
      have eF4 := b4 _ _ nF eF
      have hg4 := (b4.tape t3).ds hg
      refine ⟨rfl, ?_⟩
      obtain ⟨b, hb⟩ : ∃ b : Bool, b = decide (V.int z = V.int 1) := ⟨_, rfl⟩
      rw [← hb]
      refine ⟨fun σ6 H6 => ∃ r' d', σ6 = [some (.ref a), some (.ref R), some (.ref Fo), some (.ref r'), some (.bl b)] ∧ H6 r' = some (.tup (dV d')) ∧ Oth d d' ∧ Same H4 H6, ?_, ?_⟩
      · have stay : ∀ {H6 : Hp}, Same H4 H6 → ∃ r' d', ([some (.ref a), some (.ref R), some (.ref Fo), some (.ref r), some (.bl b)] : L2.St) = [some (.ref a), some (.ref R), some (.ref Fo), some (.ref r'), some (.bl b)] ∧ H6 r' = some (.tup (dV d')) ∧ Oth d d' ∧ Same H4 H6 := fun s => ⟨r, d, rfl, s _ _ ed4, .same d, s⟩
        cases b with
        | false =>
          refine ⟨.bl false, rfl, false, rfl, iteF ?_⟩
          refine ⟨.bl false, rfl, false, rfl, iteF ?_⟩
          refine ⟨.bl false, rfl, false, rfl, iteF ?_⟩
          exact stay (Same.refl H4)
        | true =>
          obtain ⟨x, args⟩ := d
          have hw : (x, (args.length : Int)) ∈ fwL := okd.word
          have e0 : atI (dV (x, args)) 0 = some (.str x) := dv0 (x, args)
          refine ⟨.bl true, rfl, true, rfl, iteT ⟨.ref r, rfl, r, _, 0, .str x, rfl, rfl, SqT.of ed4, e0, (by show 3 ≤ sizeLine; decide), fun U hU => ?_⟩⟩
          have sU := same_new (o := .tup [.str "and", .str "or", .str "xor"]) hU
          have edU := sU _ _ ed4
          refine ⟨U, [.str "and", .str "or", .str "xor"], rfl, .inr (SqT.of upd_same), rfl, rfl, _, rfl, ite2 (fun e => ?_) (fun e => ?_)⟩
          · have hx3 : x = "and" ∨ x = "or" ∨ x = "xor" := by
              have e' : inV (.str x) ((["and", "or", "xor"] : List Str).map V.str) = true := e
              rw [inS] at e'
              simpa using e'
            obtain ⟨i, j, rfl⟩ : ∃ i j, args = [i, j] := by
              have h2 : args.length = 2 := by
                rcases fw_cases hw with ⟨_, h⟩ | ⟨_, h⟩ | ⟨h, _⟩
                · exfalso
                  rcases hx3 with rfl | rfl | rfl <;> revert h <;> decide +kernel
                · exfalso
                  rcases hx3 with rfl | rfl | rfl <;> revert h <;> decide +kernel
                · exact h
              match args, h2 with
              | [i, j], _ => exact ⟨i, j, rfl⟩
            refine ⟨.ref r, rfl, r, _, 0, .str x, rfl, rfl, SqT.of edU, rfl, .ref r, rfl, r, _, 2, .int j, rfl, rfl, SqT.of edU, rfl, .ref r, rfl, r, _, 1, .int i, rfl, rfl, SqT.of edU, rfl, (by show 3 ≤ sizeLine; decide), fun W hW => ?_⟩
            exact ⟨W, (x, [j, i]), rfl, upd_same, .turn hx3, sU.trans (same_new hW)⟩
          · refine ⟨.bl true, rfl, true, rfl, iteT ⟨.ref r, rfl, r, _, 0, .str x, rfl, rfl, SqT.of edU, e0, rfl, _, rfl, ite2 (fun e => ?_) (fun e => ?_)⟩⟩
            · obtain rfl : x = "twice" := strEq e
              obtain ⟨i, rfl⟩ : ∃ i, args = [i] := by
                have h2 : args.length = 1 := by
                  rcases fw_cases hw with ⟨_, h⟩ | ⟨h, _⟩ | ⟨_, h⟩
                  · exact absurd h (by decide +kernel)
                  · exact h
                  · exact absurd h (by decide +kernel)
                match args, h2 with
                | [i], _ => exact ⟨i, rfl⟩
              refine ⟨.ref r, rfl, r, _, 1, .int i, rfl, rfl, SqT.of edU, rfl, .ref r, rfl, r, _, 1, .int i, rfl, rfl, SqT.of edU, rfl, (by show 3 ≤ sizeLine; decide), fun W hW => ?_⟩
              exact ⟨W, ("add", [i, i]), rfl, upd_same, .sum, sU.trans (same_new hW)⟩
            · refine ⟨.bl true, rfl, true, rfl, iteT ⟨.ref r, rfl, r, _, 0, .str x, rfl, rfl, SqT.of edU, e0, rfl, _, rfl, ite2 (fun e => ?_) (fun e => ?_)⟩⟩
              · obtain rfl : x = "add" := strEq e
                obtain ⟨i, j, rfl⟩ : ∃ i j, args = [i, j] := by
                  have h2 : args.length = 2 := by
                    rcases fw_cases hw with ⟨_, h⟩ | ⟨_, h⟩ | ⟨h, _⟩
                    · exact absurd h (by decide +kernel)
                    · exact absurd h (by decide +kernel)
                    · exact h
                  match args, h2 with
                  | [i, j], _ => exact ⟨i, j, rfl⟩
                refine ⟨.ref r, rfl, r, _, 2, .int j, rfl, rfl, SqT.of edU, rfl, .ref r, rfl, r, _, 1, .int i, rfl, rfl, SqT.of edU, rfl, (by show 3 ≤ sizeLine; decide), fun W hW => ?_⟩
                have sW := same_new (o := .tup [.str "add", .int j, .int i]) hW
                have eW := upd_same (H := upd H4 U (.tup [.str "and", .str "or", .str "xor"])) (a := W) (o := .tup [.str "add", .int j, .int i])
                refine ⟨.ref W, rfl, W, _, 1, .int j, rfl, rfl, SqT.of eW, rfl, .ref W, rfl, W, _, 2, .int i, rfl, rfl, SqT.of eW, rfl, rfl, _, rfl, ite2 (fun e => ?_) (fun e => ?_)⟩
                · obtain rfl : j = i := intEq e
                  refine ⟨.ref W, rfl, W, _, 1, .int j, rfl, rfl, SqT.of eW, rfl, (by show 2 ≤ sizeLine; decide), fun W2 hW2 => ?_⟩
                  exact ⟨W2, ("twice", [j]), rfl, upd_same, .back, sU.trans (sW.trans (same_new hW2))⟩
                · exact ⟨W, ("add", [j, i]), rfl, eW, .swap, sU.trans sW⟩
              · exact stay sU
      · rintro σ6 H6 ⟨r', d', rfl, er', od, s6⟩
        have eF6 := s6 _ _ eF4
        have tt := tups_put (o := .lst (gs.map V.ref ++ [V.ref r'])) eF6
        refine ⟨.ref Fo, rfl, .inl ⟨rfl, _, .inl (.inl eF6)⟩, .ref r', rfl, Fo, _, _, rfl, rfl, eF6, ?_, _, _, gs ++ [r'], es ++ [d'], rfl, ?_, ?_, ?_, (t4.same s6).upd nF, ?_⟩
        · rw [List.length_map]
          exact small1000 (by omega)
        · rw [upd_same, List.map_append]
          rfl
        · exact tt.ds (awSnoc (F := fun r d => H6 r = some (.tup (dV d))) er' ((Same.tups s6).ds hg4))
        · rw [List.take_add_one, hd1]
          exact awSnoc (F := Oth) od os
        · intro c o' nb e
          rw [upd_ne (ne_of_none e hFo)]
          exact s6 _ _ (b04 c o' nb e)
    · obtain ⟨y3, y4, gs, es, rfl, eF, hg, os, t3, b3⟩ := hp
      rw [List.length_map, rl, List.take_length] at os
      have eR3 := b3.tape tp _ _ eR
      refine ⟨.ref R, rfl, R, _, 0, .int (m : Int), rfl, rfl, SqT.of eR3, rfl, .ref Fo, rfl, Fo, _, rfl, .inl ⟨.inl (.inl eF), fun T hT => ?_⟩⟩
      have sT := same_new (o := .tup (gs.map V.ref)) hT
      refine ⟨.ref R, rfl, R, _, 2, .int o, rfl, rfl, SqT.of (sT _ _ eR3), rfl, by show 3 ≤ sizeLine; decide, fun R' hR' => ?_⟩
      have sR := same_new (o := .tup [.int (m : Int), .ref T, .int o]) hR'
      have s2 := sT.trans sR
      have el := awLen os
      exact q _ R' es ⟨T, gs, upd_same, sR _ _ upd_same, (Same.tups s2).ds hg⟩ ⟨ok.m1, ok.m3, by rw [← el]; exact ok.len, oths_ok os ok.deeds, ok.o0, by rw [← el]; exact ok.o1⟩ os (t3.same s2) (b3.trans (But.same s2))
/-! ### _law_walk_right: each carry that comes has one state -/
theorem ob_at {m : Nat} {ds : List Deed} {o : Int} {c bs : List Int} (ok : RowOk m ds o) (hb : bs ∈ allB m) (hc : c.length = ds.length) : atI ((bts ds c bs).map V.int) o = some (.int ((bts ds c bs).getD o.toNat 0)) := by
  have h1 := (allB_ok m bs hb).1
  exact atI_ints ok.o0 (by rw [bts_len hc.symm, h1]; exact ok.o1)
def spWr : Sp := fun vs H Q _ => ∃ (R p : Addr) (m : Nat) (o : Int) (ds : List Deed) (ls : List Addr) (cs : List (List Int)) (mac : List MRow) (ns : List Nat) (lm : List MRow), vs = [.ref R, .ref p] ∧ RowAt H R (m : Int) ds o ∧ RowOk (m : Int) ds o ∧ H p = some (.lst (ls.map V.ref)) ∧ MacL H ls lm ∧ Mch m ds o cs mac ns lm ∧
  ∀ H', Same H H' → Q (.bl true) H'
abbrev kdV (k : Nat) : V := .int (k : Int)
/-- the walk: carries met, each with its state -/
structure WkI (cs : List (List Int)) (ns : List Nat) (es : List (List Int × Nat)) : Prop where
  nd : (es.map (·.1)).Nodup
  kd : ∀ e ∈ es, KdS cs ns e.1 e.2
theorem WkI.few {m : Nat} {ds : List Deed} {o : Int} {cs : List (List Int)} {mac : List MRow} {ns : List Nat} {lm : List MRow} {es : List (List Int × Nat)} (h : WkI cs ns es) (M : Mch m ds o cs mac ns lm) (l8 : ds.length ≤ 8) : es.length ≤ 256 := by
  have := few_cs (n := ds.length) h.nd (fun c hc => by
    obtain ⟨e, he, rfl⟩ := List.mem_map.mp hc
    obtain ⟨i, hi, _⟩ := h.kd e he
    exact M.wm.bits _ (List.mem_of_getElem? hi)) l8
  rwa [List.length_map] at this
set_option maxHeartbeats 4000000 in
theorem ok_wr {f fF fB fS : Addr} {fd fdF fdB fdS : FuncData} {k : Nat} (F : Fun K "_law_walk_right" "_law_walk_right" s_law_walk_right f fd)
    (GF : FnOk P w K mg base CX0 (k + 1) fF fdF ["row"] spFc) (kF : PySem.W.keepIn K (.ref fF) = true) (bF : Binds K fdF ["row"] []) (gF : mg "_law_first" = some (.ref fF))
    (GB : FnOk P w K mg base CX0 (k + 1) fB fdB ["many"] spAbf) (kB : PySem.W.keepIn K (.ref fB) = true) (bB : Binds K fdB ["many"] []) (gB : mg "_law_bits" = some (.ref fB))
    (GS : FnOk P w K mg base CX0 (k + 2) fS fdS ["row", "carry", "bits"] spLs) (kS : PySem.W.keepIn K (.ref fS) = true) (bS : Binds K fdS ["row", "carry", "bits"] []) (gS : mg "_law_step" = some (.ref fS))
    (mn : mg "len" = none) (me : mg "enumerate" = none) : FnOk P w K mg base CX0 (k + 3) f fd ["row", "machine"] spWr := by
  refine F.ok sc_law_walk_right (fun vs H Q E h => ?_) (fun cdv A outer s H vs Q E hr h => ?_)
  · obtain ⟨R, p, m, o, ds, ls, cs, mac, ns, lm, rfl, _⟩ := h
    rfl
  · obtain ⟨R, p, m, o, ds, ls, cs, mac, ns, lm, rfl, hrow, hok, ep, hmac, M, qq⟩ := h
    obtain ⟨D, rs, eR, eD, hd⟩ := id hrow
    have r1 := hr.mono (show k + 1 ≤ k + 2 by omega)
    have hu := hu_of hr
    refine ⟨_, pss_cons (ps_set (i := 2) sc_law_walk_right.nd rfl (.inl rfl) (pe_dispT (Nat.lt_of_le_of_lt (Nat.le_add_right _ _) hr.units) (pe_call GF r1 (by rfl) gF kF bF .nil pass0 (pa_cons (pv 0) pa_nil)) pe_int))
    (pss_cons (ps_set (i := 3) sc_law_walk_right.nd rfl (.inl rfl) (pe_lst (pa_cons (pe_call GF r1 (by rfl) gF kF bF .nil pass0 (pa_cons (pv 0) pa_nil)) pa_nil)))
    (pss_cons (ps_set (i := 4) sc_law_walk_right.nd rfl (.inl rfl) pe_int)
    (pss_cons (ps_while PassesOwn.never (pt_cmpR op_lt (pv 4) (pe_callB call_len_seq (by rfl) mn PySem.boot_len (pa_cons (pv 3) pa_nil)) (nomark _))
    (pss_cons (ps_for PassesOwn.never rfl (pi_enum (by rfl) me (pa_cons (pe_call GB r1 (by rfl) gB kB bB .nil pass0 (pa_cons (pe_ix ix_tup (pv 0) pe_int (fun _ _ => rfl)) pa_nil)) pa_nil)) (pg_tup rfl (pgs_cons (pg_name (i := 5) sc_law_walk_right.nd rfl (.inl rfl)) (pgs_cons (pg_name (i := 6) sc_law_walk_right.nd rfl (.inl rfl)) pgs_nil)))
    (pss_cons (ps_asg (pe_call GS hr (by rfl) gS kS bS .nil pass0 (pa_cons (pv 0) (pa_cons (pe_ix ix_list (pv 3) (pv 4) (fun _ _ => rfl)) (pa_cons (pv 6) pa_nil)))) (pg_tup rfl (pgs_cons (pg_name (i := 7) sc_law_walk_right.nd rfl (.inl rfl)) (pgs_cons (pg_name (i := 8) sc_law_walk_right.nd rfl (.inl rfl)) pgs_nil))))
    (pss_cons (ps_asg (pe_ix ix_list (pe_ix ix_list (pv 1) (pe_dget hu (pv 2) (pe_ix ix_list (pv 3) (pv 4) (fun _ _ => rfl)) (fun _ _ => rfl)) (fun _ _ => rfl)) (pv 5) (fun _ _ => rfl)) (pg_tup rfl (pgs_cons (pg_name (i := 9) sc_law_walk_right.nd rfl (.inl rfl)) (pgs_cons (pg_name (i := 10) sc_law_walk_right.nd rfl (.inl rfl)) pgs_nil))))
    (pss_cons (ps_if (PW.pt (pw_or (pt_cmpR op_ne (pv 9) (pe_ix ix_tup (pv 7) (pe_ix ix_tup (pv 0) pe_int (fun _ _ => rfl)) (fun _ _ => rfl)) (nomark _)) (pw_or1 (pt_cmpR op_ne (pe_dget2 hu (pv 2) (pv 8) (pv 10) ⟨rfl, rfl, rfl, rfl⟩) (pv 10) (nomark _)))))
    (pss_one (ps_ret pe_bl))
    pss_nil)
    (pss_one (ps_if (pt_cmp (pc_dnotin hu (pv 8) (pv 2)))
    (pss_cons (ps_dput hu (pv 2) (pv 8) (pv 10) rfl)
    (pss_one (ps_expr (pe_bm PySem.F.plainAttrs_list PySem.F.slot_list_append PySem.F.type_list_append mt_append (pv 3) (pa_cons (pv 8) pa_nil)))))
    pss_nil))))))
    (pss_one (ps_set (i := 4) sc_law_walk_right.nd rfl (.inl rfl) (pe_op op_add (pv 4) pe_int)))))
    (pss_one (ps_ret pe_bl))))), ?_⟩
    have l8 := hok.len
    have m1 := hok.m1
    have m3 := hok.m3
    have p8 : 2 ^ m ≤ 8 := Nat.le_trans (Nat.pow_le_pow_right (by decide) (show m ≤ 3 by omega)) (by decide)
    intro St hSt
    have sSt := same_new (o := .dT []) hSt
    refine ⟨.ref R, rfl, R, m, o, ds, rfl, (Same.tups sSt).row hrow, by omega, fun H1 Fi s1 nFi eFi => ?_⟩
    have eSt1 : H1 St = some (.dT []) := s1 _ _ upd_same
    refine ⟨Fi, kI (ds.map fcD), rfl, (by rw [kI_V]; exact eFi), eSt1, ?_⟩
    have e0 : ([(kI (ds.map fcD), V.int 0)] : List (List Key × V)) = emb kdV [(ds.map fcD, 0)] := rfl
    rw [e0]
    have s2 : Same H (upd H1 St (.dT (emb kdV [(ds.map fcD, 0)]))) := fun b u e => by
      rw [upd_ne (ne_of_none e hSt)]
      exact s1 _ _ (sSt _ _ e)
    obtain ⟨H2, hH2⟩ : ∃ H2, H2 = upd H1 St (.dT (emb kdV [(ds.map fcD, 0)])) := ⟨_, rfl⟩
    have eSt2 : H2 St = some (.dT (emb kdV [(ds.map fcD, 0)])) := by rw [hH2]; exact upd_same
    rw [← hH2] at s2 ⊢
    refine ⟨.ref R, rfl, R, m, o, ds, rfl, (Same.tups s2).row hrow, by omega, fun H3 F2 s3 nF2 eF2 => ?_⟩
    refine ⟨(by show 1 ≤ sizeLine; decide), fun Or hOr => ?_⟩
    have sOr := same_new (o := .lst [.ref F2]) hOr
    have eSt3 := sOr _ _ (s3 _ _ eSt2)
    have eF3 := sOr _ _ eF2
    have s03 := s2.trans (s3.trans sOr)
    have nOr0 : H Or = none := (s2.trans s3).free hOr
    have nSO : St ≠ Or := ne_of_none (s3 _ _ eSt2) hOr
    refine ⟨fun n σ H4 => ∃ (y5 y6 y7 y8 y9 y10 : Option V) (as : List Addr) (es : List (List Int × Nat)) (a : Nat), σ = [some (.ref R), some (.ref p), some (.ref St), some (.ref Or), some (.int a), y5, y6, y7, y8, y9, y10] ∧ H4 Or = some (.lst (as.map V.ref)) ∧ TAt H4 as (es.map (·.1)) ∧ H4 St = some (.dT (emb kdV es)) ∧ WkI cs ns es ∧ a ≤ es.length ∧ Same H H4 ∧ n = 257 - a,
      ⟨_, none, none, none, none, none, none, [F2], [(ds.map fcD, 0)], 0, rfl, upd_same, .cons eF3 .nil, eSt3, ⟨by simp, fun e he => by rw [List.mem_singleton.mp he]; exact M.first⟩, Nat.zero_le _, s03, rfl⟩, fun n σ H4 hp => ?_⟩
    obtain ⟨y5, y6, y7, y8, y9, y10, as, es, a, rfl, eOr, hT, eSt, wk, al, s4, rfl⟩ := hp
    have asl := awLen hT
    rw [List.length_map] at asl
    have few := wk.few M l8
    refine ⟨.int a, rfl, .ref Or, rfl, Or, _, rfl, .inl (.inl (.inl eOr)), _, _, rfl, rfl, _, rfl, ite2 (fun e => ?_) (fun e => ?_)⟩
    · have lt : a < es.length := by
        have := of_decide_eq_true e
        rw [List.length_map] at this
        omega
      refine ⟨fun σ' H' => ∃ m', m' < 257 - a ∧ (∃ (y5 y6 y7 y8 y9 y10 : Option V) (as : List Addr) (es : List (List Int × Nat)) (a : Nat), σ' = [some (.ref R), some (.ref p), some (.ref St), some (.ref Or), some (.int a), y5, y6, y7, y8, y9, y10] ∧ H' Or = some (.lst (as.map V.ref)) ∧ TAt H' as (es.map (·.1)) ∧ H' St = some (.dT (emb kdV es)) ∧ WkI cs ns es ∧ a ≤ es.length ∧ Same H H' ∧ m' = 257 - a), fun σ' H' z => z, ?_⟩
      refine ⟨.ref R, rfl, R, _, 0, .int (m : Int), rfl, rfl, SqT.of (s4 _ _ eR), rfl, m, rfl, by omega, by omega, fun H5 Bl fs s5 nB eB hfs => ?_⟩
      have s05 := s4.trans s5
      have fl : fs.length = 2 ^ m := by rw [awLen hfs, allB_len]
      have nBO : Bl ≠ Or := fun z => by rw [z, eOr] at nB; cases nB
      have nBS : Bl ≠ St := fun z => by rw [z, eSt] at nB; cases nB
      obtain ⟨e0, he0⟩ : ∃ e0, es[a]? = some e0 := ⟨_, List.getElem?_eq_getElem lt⟩
      have kd0 := wk.kd e0 (List.mem_of_getElem? he0)
      have cb0 : e0.1.length = ds.length ∧ ∀ x ∈ e0.1, Bit x := by
        obtain ⟨i, hi, _⟩ := kd0
        exact M.wm.bits _ (List.mem_of_getElem? hi)
      refine ⟨Bl, _, rfl, .inl (.inl eB), for_it (walk_enum (K := K) (a := Bl) (xs := fs.map V.ref)) (fun t σ H6 => ∃ (y5 y6 y7 y8 y9 y10 : Option V) (as' : List Addr) (es' : List (List Int × Nat)), σ = [some (.ref R), some (.ref p), some (.ref St), some (.ref Or), some (.int a), y5, y6, y7, y8, y9, y10] ∧ H6 Or = some (.lst (as'.map V.ref)) ∧ TAt H6 as' (es'.map (·.1)) ∧ H6 St = some (.dT (emb kdV es')) ∧ WkI cs ns es' ∧ (∃ more, es' = es ++ more) ∧ ∀ b u, b ≠ Or → b ≠ St → H5 b = some u → H6 b = some u)
        ⟨y5, y6, y7, y8, y9, y10, as, es, rfl, s5 _ _ eOr, tat_stay (Same.tups s5) hT, s5 _ _ eSt, wk, ⟨[], (List.append_nil _).symm⟩, fun _ _ _ _ z => z⟩ (fun t σ H6 _ hp => ?_) (fun t x σ H6 H7 ht hp hy => ?_) (fun σ H6 hp => ?_)⟩
      · obtain ⟨_, _, _, _, _, _, _, _, _, _, _, _, _, _, st⟩ := hp
        exact .inl (.inl (st _ _ nBO nBS eB))
      · obtain ⟨y5, y6, y7, y8, y9, y10, as', es', rfl, eOr6, hT6, eSt6, wk6, ⟨more, pre⟩, st⟩ := hp
        obtain ⟨U, x1, x2, rfl, hU, rfl, g1, g2⟩ := hy
        obtain rfl : V.int (t : Nat) = x1 := Option.some.inj g1
        have ht2 : t < fs.length := by rwa [List.length_map] at ht
        have hx2 : x2 = .ref fs[t] := by
          have g2' : (fs.map V.ref)[t]? = some x2 := g2
          rw [List.getElem?_map, List.getElem?_eq_getElem ht2] at g2'
          exact (Option.some.inj g2').symm
        subst hx2
        obtain ⟨bs, hbs, eb⟩ := awGet hfs (List.getElem?_eq_getElem ht2)
        obtain ⟨b, hb⟩ : ∃ b, b = fs[t] := ⟨_, rfl⟩
        rw [← hb] at eb ⊢
        have hbm := List.mem_of_getElem? hbs
        obtain ⟨bl, bb⟩ := allB_ok m bs hbm
        have sU := same_new (o := .tup [.int (t : Nat), .ref b]) hU
        have eU := upd_same (H := H6) (a := U) (o := .tup [.int (t : Nat), .ref b])
        obtain ⟨H7, hH7⟩ : ∃ H7, H7 = upd H6 U (.tup [.int (t : Nat), .ref b]) := ⟨_, rfl⟩
        rw [← hH7] at sU eU ⊢
        have ts56 : TupsStay H5 H6 := fun b xs z => st b _ (ne_of z (s5 _ _ eOr) (fun y => nomatch y)) (ne_of z (s5 _ _ eSt) (fun y => nomatch y)) z
        have s06 : ∀ b u, b ≠ Or → b ≠ St → H b = some u → H6 b = some u := fun b u n1 n2 z => st b u n1 n2 (s05 _ _ z)
        have s06' : Same H H6 := fun b u z => s06 b u (ne_of_none z nOr0) (ne_of_none z hSt) z
        have s07 := s06'.trans sU
        have eOr7 := sU _ _ eOr6
        have eSt7 := sU _ _ eSt6
        have hT7 := tat_stay (Same.tups sU) hT6
        have he0' : es'[a]? = some e0 := by rw [pre, List.getElem?_append_left lt]; exact he0
        obtain ⟨ca, hca, eca⟩ := awGet2 hT7 (show (es'.map (·.1))[a]? = some e0.1 by rw [List.getElem?_map, he0']; rfl)
        have oa : atI (as'.map V.ref) (a : Int) = some (.ref ca) := atI_nat (by rw [List.getElem?_map, hca]; rfl)
        refine ⟨U, [.int (t : Nat), .ref b], rfl, .inl (.inl eU), rfl, .int (t : Nat), [.ref b], rfl, .ref b, [], rfl, rfl, ?_⟩
        refine ⟨.ref R, rfl, .ref Or, rfl, .int a, rfl, Or, _, _, .ref ca, rfl, rfl, .inl (.inl eOr7), oa, .ref b, rfl, R, ca, b, m, o, ds, e0.1, bs, rfl, (Same.tups s07).row hrow, hok.deeds, by omega, eca, cb0.1, sU _ _ (ts56 _ _ eb), by rw [bl], by omega, cb0.2, bb, fun H8 p5 A2 B2 s8 ep5 eA eB8 => ?_⟩
        obtain ⟨nx, hnx⟩ : ∃ nx, nx = nxt ds e0.1 (bts ds e0.1 bs) := ⟨_, rfl⟩
        rw [← hnx] at eB8
        have eOr8 := s8 _ _ eOr7
        have eSt8 := s8 _ _ eSt7
        have hT8 := tat_stay (Same.tups s8) hT7
        have s08 := s07.trans s8
        refine ⟨p5, [.ref A2, .ref B2], rfl, .inl (.inl ep5), rfl, .ref A2, [.ref B2], rfl, .ref B2, [], rfl, rfl, ?_⟩
        -- the state and what it tells
        obtain ⟨k', hk1, hk2⟩ := M.at kd0 hbs
        have klt := M.lt kd0
        have elm : lm[e0.2]? = some lm[e0.2] := List.getElem?_eq_getElem klt
        have erow := linv_row M.li M.kk elm
        obtain ⟨l, hl, qs, eqs, hqs⟩ := awGet2 (macl_same s08 hmac) elm
        obtain ⟨qt, hqt, eqt⟩ := awGet2 hqs (show lm[e0.2][t]? = some (ob ds o e0.1 bs, (k' : Int)) by rw [erow, List.getElem?_map, hk1]; rfl)
        have hgt := getA_of wk6.nd (List.mem_of_getElem? he0')
        have g := DGet.t (k := kI e0.1) eSt8 (by rw [kI_V]; exact s8 _ _ eca)
        rw [emb_get, hgt] at g
        refine ⟨.ref p, rfl, .ref St, rfl, .ref Or, rfl, .int a, rfl, Or, _, _, .ref ca, rfl, rfl, .inl (.inl eOr8), oa, St, _, rfl, g, p, _, (e0.2 : Int), .ref l, rfl, rfl, .inl (.inl (s08 _ _ ep)), atI_nat (by rw [List.getElem?_map, hl]; rfl), .int (t : Nat), rfl, l, _, (t : Int), .ref qt, rfl, rfl, .inl (.inl eqs), atI_nat (by rw [List.getElem?_map, hqt]; rfl), ?_⟩
        refine ⟨qt, [.int (ob ds o e0.1 bs), .int (k' : Int)], rfl, .inl (.inl eqt), rfl, .int (ob ds o e0.1 bs), [.int (k' : Int)], rfl, .int (k' : Int), [], rfl, rfl, ?_⟩
        refine ⟨.int (ob ds o e0.1 bs), rfl, .ref A2, rfl, .ref R, rfl, R, _, 2, .int o, rfl, rfl, SqT.of (s08 _ _ eR), rfl, A2, _, o, _, rfl, rfl, SqT.of eA, ob_at hok hbm cb0.1, rfl, _, rfl, ite2 (fun e => absurd e (by unfold ob; simp)) (fun _ => ?_)⟩
        have key : H8 B2 = some (.tup ((kI nx).map kV)) := by rw [kI_V]; exact eB8
        have g2 := DGet.t eSt8 key
        rw [emb_get] at g2
        have hk2' : KdS cs ns nx k' := by rw [hnx]; exact hk2
        have gk : ((getA es' nx).map kdV).getD (.int (k' : Int)) = .int (k' : Int) := by
          cases hg : getA es' nx with
          | none => rfl
          | some j =>
            have hm := wk6.kd _ (getA_some hg)
            obtain rfl : j = k' := M.uniq hm hk2'
            rfl
        refine ⟨.ref St, rfl, St, rfl, ?_, .ref B2, rfl, .int (k' : Int), rfl, _, g2, ?_⟩
        · exact .inr ⟨_, .inl eSt8⟩
        rw [gk]
        refine ⟨.int (k' : Int), rfl, rfl, _, rfl, ite2 (fun e => absurd e (by simp)) (fun _ => ?_)⟩
        refine ⟨.ref B2, rfl, .ref St, rfl, St, _, rfl, g2, _, rfl, ?_⟩
        have st8 : ∀ b u, b ≠ Or → b ≠ St → H5 b = some u → H8 b = some u := fun b u n1 n2 z => s8 _ _ (sU _ _ (st b u n1 n2 z))
        by_cases hin : nx ∈ es'.map (·.1)
        · cases hg : getA es' nx with
          | none => exact absurd hin (getA_none.mp hg)
          | some j =>
            refine iteF ?_
            exact ⟨_, _, _, _, _, _, as', es', rfl, eOr8, hT8, eSt8, wk6, ⟨more, pre⟩, st8⟩
        · rw [getA_none.mpr hin]
          refine iteT ?_
          have few6 := wk6.few M l8
          refine ⟨.int (k' : Int), rfl, .ref St, rfl, .ref B2, rfl, St, _, rfl, DPut.t eSt8 key (by unfold emb; rw [List.length_map]; exact small1000 (by omega)), ?_⟩
          have ep' : putK (emb kdV es') (kI nx) (.int (k' : Int)) = emb kdV (es' ++ [(nx, k')]) := by
            rw [show (V.int (k' : Int)) = kdV k' from rfl, emb_put]
            unfold putA
            rw [if_neg hin]
          rw [ep']
          have tM : TupsStay H8 (upd H8 St (.dT (emb kdV (es' ++ [(nx, k')])))) := fun b xs e => by
            rw [upd_ne (ne_of e eSt8 (fun z => nomatch z))]
            exact e
          have eOr9 : upd H8 St (.dT (emb kdV (es' ++ [(nx, k')]))) Or = some (.lst (as'.map V.ref)) := by
            rw [upd_ne nSO.symm]
            exact eOr8
          have tF := tups_put (o := .lst (as'.map V.ref ++ [V.ref B2])) eOr9
          have al' := awLen hT8
          rw [List.length_map] at al'
          refine ⟨.ref Or, rfl, .inl ⟨rfl, _, .inl (.inl eOr9)⟩, .ref B2, rfl, Or, _, _, rfl, rfl, eOr9, (by rw [List.length_map]; exact small1000 (by omega)), ?_⟩
          refine ⟨_, _, _, _, _, _, as' ++ [B2], es' ++ [(nx, k')], rfl, (by rw [upd_same, List.map_append]; rfl), ?_, (by rw [upd_ne nSO]; exact upd_same), ⟨?_, fun e he => ?_⟩, ⟨more ++ [(nx, k')], by rw [pre, List.append_assoc]⟩, fun b u n1 n2 z => ?_⟩
          · rw [List.map_append]
            exact tat_stay tF (tat_stay tM (awSnoc (F := fun (f : Addr) (b : List Int) => H8 f = some (.tup (b.map V.int))) eB8 hT8))
          · rw [List.map_append]
            exact List.nodup_append.mpr ⟨wk6.nd, by simp, fun x hx y hy e => by
              rw [List.mem_singleton.mp hy] at e
              rw [e] at hx
              exact hin hx⟩
          · rcases List.mem_append.mp he with he | he
            · exact wk6.kd e he
            · rw [List.mem_singleton.mp he]
              exact hk2'
          · rw [upd_ne n1, upd_ne n2]
            exact st8 b u n1 n2 z
      · obtain ⟨y5, y6, y7, y8, y9, y10, as', es', rfl, eOr6, hT6, eSt6, wk6, ⟨more, pre⟩, st⟩ := hp
        exact ⟨.int a, rfl, a, 1, rfl, rfl, 257 - (a + 1), by omega, y5, y6, y7, y8, y9, y10, as', es', a + 1, rfl, eOr6, hT6, eSt6, wk6, by rw [pre, List.length_append]; omega, fun b u z => st b u (ne_of_none z nOr0) (ne_of_none z hSt) (s05 _ _ z), rfl⟩
    · exact qq H4 s4
/-! ### _law_met_in_order: states numbered as they are met -/
/-- met so far: so many, by the states ahead of one and the first so many of its own steps -/
structure MetI (nx : Nat → List (Int × Nat)) (at0 t many n : Nat) : Prop where
  pos : 1 ≤ many
  le : many ≤ n
  seen : ∀ (p' t' : Nat) (s : Int × Nat), (p' < at0 ∨ p' = at0 ∧ t' < t) → p' < n → (nx p')[t']? = some s → s.2 < many
theorem MetI.first {nx : Nat → List (Int × Nat)} {n : Nat} (h : 0 < n) : MetI nx 0 0 1 n := ⟨Nat.le_refl _, h, fun p' t' s hl _ _ => by omega⟩
theorem MetI.more {nx : Nat → List (Int × Nat)} {at0 t many n : Nat} (fo : FOrd nx (List.range n)) (h : MetI nx at0 t many n) (ha : at0 < n) {s : Int × Nat} (hs : (nx at0)[t]? = some s) (hb : s.2 < n) : s.2 ≤ many ∧ MetI nx at0 (t + 1) (many + if s.2 = many then 1 else 0) n := by
  have le : s.2 ≤ many := by
    apply Nat.le_of_not_lt
    intro gt
    obtain ⟨p, t0, a, s0, hp, e1, e2, e3, e4⟩ := fo many many (by have := h.pos; omega) (by rw [List.getElem?_range (by omega)])
    have pl : p < n := by omega
    rw [List.getElem?_range pl] at e1
    obtain rfl := Option.some.inj e1
    have later : ¬ (p < at0 ∨ p = at0 ∧ t0 < t) := fun z => by
      have := h.seen p t0 s0 z pl e2
      omega
    have ne : ¬ (p = at0 ∧ t0 = t) := fun z => by
      obtain ⟨rfl, rfl⟩ := z
      rw [hs] at e2
      obtain rfl := Option.some.inj e2
      omega
    obtain ⟨j, j1, j2⟩ := e4 at0 t at0 s (by omega) (by rw [List.getElem?_range ha]) hs
    rw [List.getElem?_range (by omega)] at j2
    have := Option.some.inj j2
    omega
  refine ⟨le, by have := h.pos; omega, ?_, fun p' t' s' hl hp e => ?_⟩
  · have := h.le
    split <;> omega
  · by_cases z : p' = at0 ∧ t' = t
    · obtain ⟨rfl, rfl⟩ := z
      rw [hs] at e
      obtain rfl := Option.some.inj e
      split <;> omega
    · have := h.seen p' t' s' (by omega) hp e
      omega
theorem MetI.next {nx : Nat → List (Int × Nat)} {at0 t many n : Nat} (h : MetI nx at0 t many n) (ht : (nx at0).length ≤ t) : MetI nx (at0 + 1) 0 many n := ⟨h.pos, h.le, fun p' t' s hl hp e => by
  by_cases z : p' = at0
  · subst z
    exact h.seen p' t' s (.inr ⟨rfl, by have := (List.getElem?_eq_some_iff.mp e).1; omega⟩) hp e
  · exact h.seen p' t' s (.inl (by omega)) hp e⟩
theorem MetI.here {nx : Nat → List (Int × Nat)} {at0 many n : Nat} (fo : FOrd nx (List.range n)) (h : MetI nx at0 0 many n) (ha : at0 < n) : at0 < many := by
  by_cases z : at0 = 0
  · have := h.pos
    omega
  · obtain ⟨p, t0, a, s0, hp, e1, e2, e3, _⟩ := fo at0 at0 (by omega) (by rw [List.getElem?_range ha])
    rw [List.getElem?_range (by omega)] at e1
    obtain rfl := Option.some.inj e1
    have := h.seen p t0 s0 (.inl hp) (by omega) e2
    omega
theorem MetI.done {nx : Nat → List (Int × Nat)} {many n : Nat} (fo : FOrd nx (List.range n)) (h : MetI nx n 0 many n) : many = n := by
  have := h.le
  apply Nat.le_antisymm this
  apply Nat.le_of_not_lt
  intro lt
  obtain ⟨p, t0, a, s0, hp, e1, e2, e3, _⟩ := fo many many (by have := h.pos; omega) (by rw [List.getElem?_range lt])
  rw [List.getElem?_range (by omega)] at e1
  obtain rfl := Option.some.inj e1
  have := h.seen p t0 s0 (.inl (by omega)) (by omega) e2
  omega
theorem mch_clo {m : Nat} {ds : List Deed} {o : Int} {cs : List (List Int)} {mac : List MRow} {ns : List Nat} {lm : List MRow} (M : Mch m ds o cs mac ns lm) {a : Nat} (ha : a < lm.length) {s : Int × Nat} (hs : s ∈ nxK mac ns a) : s.2 < lm.length := by
  obtain ⟨c, _, hk⟩ := M.surj ha
  obtain ⟨t, ht⟩ := List.mem_iff_getElem?.mp hs
  obtain ⟨s', _, _, e⟩ := awGet (M.row hk) ht
  exact M.lt e
def spMo : Sp := fun vs H Q _ => ∃ (p : Addr) (m : Nat) (o : Int) (ds : List Deed) (ls : List Addr) (cs : List (List Int)) (mac : List MRow) (ns : List Nat) (lm : List MRow), vs = [.ref p] ∧ H p = some (.lst (ls.map V.ref)) ∧ MacL H ls lm ∧ Mch m ds o cs mac ns lm ∧
  ∀ H', Same H H' → Q (.bl true) H'
set_option maxHeartbeats 2000000 in
theorem ok_mo {f : Addr} {fd : FuncData} {k : Nat} (F : Fun K "_law_met_in_order" "_law_met_in_order" s_law_met_in_order f fd) (mn : mg "len" = none) (me : mg "enumerate" = none) (mI : mg "int" = none) : FnOk P w K mg base CX0 (k + 1) f fd ["machine"] spMo := by
  refine F.ok sc_law_met_in_order (fun vs H Q E h => ?_) (fun cdv A outer s H vs Q E hr h => ?_)
  · obtain ⟨p, m, o, ds, ls, cs, mac, ns, lm, rfl, _⟩ := h
    rfl
  · obtain ⟨p, m, o, ds, ls, cs, mac, ns, lm, rfl, ep, hmac, M, qq⟩ := h
    refine ⟨_, pss_cons (ps_set (i := 1) sc_law_met_in_order.nd rfl (.inl rfl) pe_int)
    (pss_cons (ps_for PassesOwn.never rfl (pi_enum (by rfl) me (pa_cons (pv 0) pa_nil)) (pg_tup rfl (pgs_cons (pg_name (i := 2) sc_law_met_in_order.nd rfl (.inl rfl)) (pgs_cons (pg_name (i := 3) sc_law_met_in_order.nd rfl (.inl rfl)) pgs_nil)))
    (pss_cons (ps_if (pt_cmpR op_ge (pv 2) (pv 1) (nomark _))
    (pss_one (ps_ret pe_bl))
    pss_nil)
    (pss_one (ps_for PassesOwn.never rfl (pi_list (pv 3)) (pg_tup rfl (pgs_cons (pg_name (i := 4) sc_law_met_in_order.nd rfl (.inl rfl)) (pgs_cons (pg_name (i := 5) sc_law_met_in_order.nd rfl (.inl rfl)) pgs_nil)))
    (pss_cons (ps_if (pt_cmpR op_gt (pv 5) (pv 1) (nomark _))
    (pss_one (ps_ret pe_bl))
    pss_nil)
    (pss_one (ps_set (i := 1) sc_law_met_in_order.nd rfl (.inl rfl) (pe_op op_add (pv 1) (pe_callTy call_int1 (by rfl) mI (by decide +kernel) (pa_cons (pe_cmpR op_eq (pv 5) (pv 1) (nomark _)) pa_nil))))))))))
    (pss_one (ps_ret (pe_cmpR op_eq (pv 1) (pe_callB call_len_seq (by rfl) mn PySem.boot_len (pa_cons (pv 0) pa_nil)) (nomark _))))), ?_⟩
    have ll := awLen hmac
    have fo := ford_kinds M.wm M.hl M.kk (linv_mem M.li)
    refine ⟨.ref p, rfl, p, _, rfl, .inl (.inl ep), for_it (walk_enum (K := K) (a := p) (xs := ls.map V.ref)) (fun i σ H3 => ∃ y2 y3 y4 y5 many, σ = [some (.ref p), some (.int ((many : Nat) : Int)), y2, y3, y4, y5] ∧ MetI (nxK mac ns) i 0 many lm.length ∧ Same H H3) ⟨none, none, none, none, 1, rfl, MetI.first M.pos, Same.refl H⟩ (fun i σ H3 _ hp => ?_) (fun i x σ H3 H4 hi hp hy => ?_) (fun σ H3 hp => ?_)⟩
    · obtain ⟨_, _, _, _, _, _, _, s3⟩ := hp
      exact .inl (.inl (s3 _ _ ep))
    · obtain ⟨y2, y3, y4, y5, many, rfl, mi, s3⟩ := hp
      obtain ⟨U, x1, x2, rfl, hU, rfl, g1, g2⟩ := hy
      obtain rfl : V.int (i : Nat) = x1 := Option.some.inj g1
      have hi2 : i < ls.length := by rwa [List.length_map] at hi
      have hx2 : x2 = .ref ls[i] := by
        have g2' : (ls.map V.ref)[i]? = some x2 := g2
        rw [List.getElem?_map, List.getElem?_eq_getElem hi2] at g2'
        exact (Option.some.inj g2').symm
      subst hx2
      have sU := same_new (o := .tup [.int (i : Nat), .ref ls[i]]) hU
      have s04 := s3.trans sU
      obtain ⟨row, hr1, qs, eqs, hqs⟩ := awGet (macl_same s04 hmac) (List.getElem?_eq_getElem hi2)
      have erow := linv_row M.li M.kk hr1
      have ql := awLen hqs
      have rl : row.length = (nxK mac ns i).length := by rw [erow, List.length_map]
      have im := mi.here fo (by omega)
      refine ⟨U, [.int (i : Nat), .ref ls[i]], rfl, .inl (.inl upd_same), rfl, .int (i : Nat), [.ref ls[i]], rfl, .ref ls[i], [], rfl, rfl, ?_⟩
      refine ⟨.int (i : Nat), rfl, .int (many : Nat), rfl, _, _, rfl, rfl, _, rfl, ite2 (fun e => absurd (of_decide_eq_true e) (by omega)) (fun _ => ?_)⟩
      refine ⟨.ref ls[i], rfl, ls[i], rfl, ⟨_, .inl (.inl eqs)⟩, for_list (K := K) (a := ls[i]) (xs := qs.map V.ref) (fun t σ H5 => ∃ y4 y5 many, σ = [some (.ref p), some (.int ((many : Nat) : Int)), some (.int (i : Nat)), some (.ref ls[i]), y4, y5] ∧ MetI (nxK mac ns) i t many lm.length ∧ H5 = upd H3 U (.tup [.int (i : Nat), .ref ls[i]])) ⟨y4, y5, many, rfl, mi, rfl⟩ (fun t σ H5 _ hp => ?_) (fun t x σ H5 hx hp => ?_) (fun σ H5 hp => ?_)⟩
      · obtain ⟨_, _, _, _, _, rfl⟩ := hp
        exact .inl (.inl eqs)
      · obtain ⟨y4, y5, many, rfl, mi, rfl⟩ := hp
        rw [List.getElem?_map] at hx
        obtain ⟨qa, hqa, rfl⟩ := Option.map_eq_some_iff.mp hx
        obtain ⟨e, he1, he2⟩ := awGet hqs hqa
        rw [erow, List.getElem?_map] at he1
        obtain ⟨s', hs', rfl⟩ := Option.map_eq_some_iff.mp he1
        obtain ⟨le, mi'⟩ := mi.more fo (by omega) hs' (mch_clo M (by omega) (List.mem_of_getElem? hs'))
        refine ⟨qa, [.int s'.1, .int (s'.2 : Int)], rfl, .inl (.inl he2), rfl, .int s'.1, [.int (s'.2 : Int)], rfl, .int (s'.2 : Int), [], rfl, rfl, ?_⟩
        refine ⟨.int (s'.2 : Int), rfl, .int (many : Nat), rfl, _, _, rfl, rfl, _, rfl, ite2 (fun e => absurd (of_decide_eq_true e) (by omega)) (fun _ => ?_)⟩
        refine ⟨.int (many : Nat), rfl, .int (s'.2 : Int), rfl, .int (many : Nat), rfl, rfl, .inr ⟨decide (s'.2 = many), ?_, ?_⟩⟩
        · by_cases z : s'.2 = many
          · rw [z, decide_eq_true rfl, decide_eq_true rfl]
          · rw [decide_eq_false z, decide_eq_false (fun y => z (by have := V.int.inj y; omega))]
        · refine ⟨_, _, rfl, rfl, some (.int s'.1), some (.int (s'.2 : Int)), _, ?_, mi', rfl⟩
          by_cases z : s'.2 = many
          · rw [if_pos z, decide_eq_true z]
            rfl
          · rw [if_neg z, decide_eq_false z]
            show _ = ([some (.ref p), some (.int ((many + 0 : Nat) : Int)), some (.int (i : Nat)), some (.ref ls[i]), some (.int s'.1), some (.int (s'.2 : Int))] : L2.St)
            rw [Nat.add_zero]
            show ([some (.ref p), some (.int ((many : Int) + 0)), some (.int (i : Nat)), some (.ref ls[i]), some (.int s'.1), some (.int (s'.2 : Int))] : L2.St) = _
            rw [Int.add_zero]
      · obtain ⟨y4, y5, many, rfl, mi, rfl⟩ := hp
        rw [List.length_map] at mi
        exact ⟨_, _, y4, y5, many, rfl, mi.next (by omega), s04⟩
    · obtain ⟨y2, y3, y4, y5, many, rfl, mi, s3⟩ := hp
      rw [List.length_map, ll] at mi
      have e := mi.done fo
      refine ⟨.int (many : Nat), rfl, .ref p, rfl, p, _, rfl, .inl (.inl (.inl (s3 _ _ ep))), rfl, ?_⟩
      rw [decide_eq_true (by rw [List.length_map, ll, e])]
      exact qq H3 s3
/-! ### _law_kinds: as many kinds as states -/
theorem Mch.red {m : Nat} {ds : List Deed} {o : Int} {cs : List (List Int)} {mac : List MRow} {ns : List Nat} {lm : List MRow} (M : Mch m ds o cs mac ns lm) {R : Nat → Nat → Prop} (h : Alk lm R) {i j : Nat} (hij : R i j) : i = j := by
  have kl := M.kk.len
  have hl := M.hl
  obtain ⟨_, _, hi, hj, _⟩ := h i j hij
  obtain ⟨a, ha⟩ := List.mem_iff_getElem?.mp ((linv_mem M.li i).mp (List.getElem?_eq_some_iff.mp hi).1)
  obtain ⟨b, hb⟩ := List.mem_iff_getElem?.mp ((linv_mem M.li j).mp (List.getElem?_eq_some_iff.mp hj).1)
  have e := M.kk.crs (fun a b => ∃ x y, ns[a]? = some x ∧ ns[b]? = some y ∧ R x y) (fun a b hab => ?_) a b ⟨i, j, ha, hb, hij⟩
  · rw [ha, hb] at e
    exact Option.some.inj e
  · obtain ⟨x, y, hx, hy, hxy⟩ := hab
    obtain ⟨r, s, hr, hs, p⟩ := h x y hxy
    have al := (List.getElem?_eq_some_iff.mp hx).1
    have bl := (List.getElem?_eq_some_iff.mp hy).1
    have er : mac[a]? = some (mac[a]'(by omega)) := List.getElem?_eq_getElem (by omega)
    have es : mac[b]? = some (mac[b]'(by omega)) := List.getElem?_eq_getElem (by omega)
    have e1 := linv_row M.li M.kk hr
    have e2 := linv_row M.li M.kk hs
    rw [nxK_at M.kk hx er, List.map_map] at e1
    rw [nxK_at M.kk hy es, List.map_map] at e2
    have ends : ∀ {a : Nat} {r : MRow}, mac[a]? = some r → ∀ e ∈ r, ∃ j : Nat, e.2 = (j : Int) ∧ j < ns.length := fun {a r} hr e he => by
      obtain ⟨c, _, w2⟩ := M.wm.each a r hr
      obtain ⟨t, ht⟩ := List.mem_iff_getElem?.mp he
      obtain ⟨_, _, _, j, v3, v4⟩ := awGet w2 ht
      exact ⟨j, v3, by have := (List.getElem?_eq_some_iff.mp v4).1; omega⟩
    have len := awLen p
    refine ⟨_, _, er, es, paired_of (by rw [e1, e2, List.length_map, List.length_map] at len; exact len) fun t e e' he he' => ?_⟩
    have g1 : r[t]? = some (e.1, ((ns.getD e.2.toNat 0 : Nat) : Int)) := by
      rw [e1, List.getElem?_map, he]
      rfl
    have g2 : s[t]? = some (e'.1, ((ns.getD e'.2.toNat 0 : Nat) : Int)) := by
      rw [e2, List.getElem?_map, he']
      rfl
    obtain ⟨z, z1, z2, z3⟩ := awGet p g1
    rw [g2] at z1
    obtain rfl := Option.some.inj z1
    obtain ⟨j, j1, j2⟩ := ends er e (List.mem_of_getElem? he)
    obtain ⟨j', j1', j2'⟩ := ends es e' (List.mem_of_getElem? he')
    refine ⟨z2, ns.getD e.2.toNat 0, ns.getD e'.2.toNat 0, ?_, ?_, ?_⟩
    · rw [j1, Int.toNat_natCast, List.getD_eq_getElem?_getD, List.getElem?_eq_getElem j2]
      rfl
    · rw [j1', Int.toNat_natCast, List.getD_eq_getElem?_getD, List.getElem?_eq_getElem j2']
      rfl
    · simpa using z3
def prK (e : Int × Int) : NestedKey := .tup [.num e.1, .num e.2]
def kJ (n : Nat) (r : MRow) : NestedKey := .tup [.num (n : Int), .tup (r.map prK)]
theorem prs_inj : ∀ {r s : MRow}, r.map prK = s.map prK → r = s
  | [], [], _ => rfl
  | [], _ :: _, h => nomatch h
  | _ :: _, [], h => nomatch h
  | x :: r, y :: s, h => by
    rw [List.map_cons, List.map_cons, List.cons.injEq] at h
    have h1 := NestedKey.tup.inj h.1
    rw [List.cons.injEq, List.cons.injEq] at h1
    rw [prs_inj h.2, show x = y from Prod.ext (NestedKey.num.inj h1.1) (NestedKey.num.inj h1.2.1)]
theorem kJ_inj {n n' : Nat} {r s : MRow} (h : kJ n r = kJ n' s) : n = n' ∧ r = s := by
  unfold kJ at h
  have h1 := NestedKey.tup.inj h
  rw [List.cons.injEq, List.cons.injEq] at h1
  have h2 := NestedKey.num.inj h1.1
  exact ⟨by omega, prs_inj (NestedKey.tup.inj h1.2.1)⟩
theorem prs_depth : ∀ r : MRow, NestedKey.depthAll (r.map prK) ≤ 2
  | [] => by simp [NestedKey.depthAll]
  | e :: r => by
    have := prs_depth r
    simp only [List.map_cons, NestedKey.depthAll, prK, NestedKey.depth]
    omega
theorem kJ_depth (n : Nat) (r : MRow) : (kJ n r).depth ≤ 8 := by
  have := prs_depth r
  unfold kJ
  simp only [NestedKey.depth, NestedKey.depthAll]
  omega
theorem prat_nks {H : Hp} : ∀ {qs : List Addr} {r : MRow}, PrAt H qs r → NkAll H (r.map prK) (qs.map V.ref)
  | _, _, .nil => .nil
  | _, _, .cons h t => .cons (.tup h (.cons (.num _) (.cons (.num _) .nil))) (prat_nks t)
theorem keyJ {H : Hp} {t b : Addr} {n : Nat} {qs : List Addr} {r : MRow} (h1 : H t = some (.tup [.int (n : Int), .ref b])) (h2 : H b = some (.tup (qs.map V.ref))) (h3 : PrAt H qs r) : KeyN H (.ref t) (kJ n r) :=
  ⟨.tup h1 (.cons (.num _) (.cons (.tup h2 (prat_nks h3)) .nil)), kJ_depth n r, t, rfl⟩
/-- kinds so far, and how many there were before -/
structure KJ (lm : List MRow) (ks : List Nat) (many : Nat) : Prop where
  len : ks.length = lm.length
  rg : RG ks
  prev : many = 0 ∨ ∃ (ps : List Nat) (M : Nat), ps.length = lm.length ∧ RG ps ∧ M ∈ ps ∧ (∀ x ∈ ps, x ≤ M) ∧ many = M + 1 ∧ Finer ks ps ∧ ∀ (i j a : Nat) r s, ks[i]? = some a → ks[j]? = some a → lm[i]? = some r → lm[j]? = some s → low ps r = low ps s
theorem KJ.first {lm : List MRow} : KJ lm (List.replicate lm.length 0) 0 := by
  refine ⟨List.length_replicate .., fun i v h => ?_, .inl rfl⟩
  rw [List.getElem?_replicate] at h
  split at h
  · cases Option.some.inj h
  · cases h
theorem KJ.step {lm : List MRow} {ks ks' : List Nat} {many M : Nat} (h : KJ lm ks many) (hM : M ∈ ks) (hx : ∀ x ∈ ks, x ≤ M) (hn : NumOf ((ks.zip lm).map fun e => kJ e.1 (low ks e.2)) ks') : KJ lm ks' (M + 1) := by
  have hl := h.len
  have zl : (ks.zip lm).length = lm.length := by rw [List.length_zip, h.len, Nat.min_self]
  have key : ∀ (i j a x y : Nat) r s, ks'[i]? = some a → ks'[j]? = some a → ks[i]? = some x → ks[j]? = some y → lm[i]? = some r → lm[j]? = some s → x = y ∧ low ks r = low ks s := fun i j a x y r s h1 h2 h3 h4 h5 h6 => by
    have z1 : (ks.zip lm)[i]? = some (x, r) := List.getElem?_zip_eq_some.mpr ⟨h3, h5⟩
    have z2 : (ks.zip lm)[j]? = some (y, s) := List.getElem?_zip_eq_some.mpr ⟨h4, h6⟩
    exact kJ_inj (hn.inj i j a _ _ h1 h2 (by rw [List.getElem?_map, z1]; rfl) (by rw [List.getElem?_map, z2]; rfl))
  refine ⟨by rw [hn.len, List.length_map, zl], hn.rg, .inr ⟨ks, M, h.len, h.rg, hM, hx, rfl, fun i j a x y h1 h2 h3 h4 => ?_, fun i j a r s h1 h2 h3 h4 => ?_⟩⟩
  · have l1 := (List.getElem?_eq_some_iff.mp h3).1
    have l2 := (List.getElem?_eq_some_iff.mp h4).1
    exact (key i j a x y _ _ h1 h2 h3 h4 (List.getElem?_eq_getElem (by omega)) (List.getElem?_eq_getElem (by omega))).1
  · have l1 := (List.getElem?_eq_some_iff.mp h3).1
    have l2 := (List.getElem?_eq_some_iff.mp h4).1
    exact (key i j a _ _ r s h1 h2 (List.getElem?_eq_getElem (by omega)) (List.getElem?_eq_getElem (by omega)) h3 h4).2
theorem low_alk {ps : List Nat} {R : Nat → Nat → Prop} : ∀ {r s : MRow}, low ps r = low ps s → (∀ e ∈ r, ∀ e' ∈ s, ps.getD e.2.toNat 0 = ps.getD e'.2.toNat 0 → R e.2.toNat e'.2.toNat) → Paired (fun (e e' : Int × Int) => e.1 = e'.1 ∧ R e.2.toNat e'.2.toNat) r s
  | [], [], _, _ => .nil
  | [], _ :: _, h, _ => nomatch h
  | _ :: _, [], h, _ => nomatch h
  | x :: r, y :: s, h, f => by
    unfold low at h
    rw [List.map_cons, List.map_cons, List.cons.injEq] at h
    have h1 := Prod.mk.inj h.1
    exact .cons ⟨h1.1, f x List.mem_cons_self y List.mem_cons_self (by have := h1.2; omega)⟩ (low_alk h.2 fun e he e' he' => f e (List.mem_cons_of_mem _ he) e' (List.mem_cons_of_mem _ he'))
theorem KJ.done {m : Nat} {ds : List Deed} {o : Int} {cs : List (List Int)} {mac : List MRow} {ns : List Nat} {lm : List MRow} (Mc : Mch m ds o cs mac ns lm) {ks : List Nat} {many M : Nat} (h : KJ lm ks many) (hx : ∀ x ∈ ks, x ≤ M) (hle : M + 1 ≤ many) : many = lm.length := by
  rcases h.prev with z | ⟨ps, N, pl, prg, hN, hxN, rfl, fin, nxt⟩
  · omega
  have hl := h.len
  have co : Finer ps ks := coarse (by omega) prg hN hx (by omega) fin
  have ends : ∀ {a : Nat} {r : MRow}, lm[a]? = some r → ∀ e ∈ r, ∃ j : Nat, e.2 = (j : Int) ∧ j < lm.length := fun {a r} hr e he => by
    rw [linv_row Mc.li Mc.kk hr] at he
    obtain ⟨s, hs, rfl⟩ := List.mem_map.mp he
    refine ⟨s.2, rfl, ?_⟩
    have ha := (List.getElem?_eq_some_iff.mp hr).1
    obtain ⟨c, _, hk⟩ := Mc.surj ha
    obtain ⟨t, ht⟩ := List.mem_iff_getElem?.mp hs
    obtain ⟨s', _, _, e⟩ := awGet (Mc.row hk) ht
    exact Mc.lt e
  have inj : ∀ i j a : Nat, ps[i]? = some a → ps[j]? = some a → i = j := fun i j a hi hj => by
    refine Mc.red (R := fun i j => ∃ a, ps[i]? = some a ∧ ps[j]? = some a) (fun i j hij => ?_) ⟨a, hi, hj⟩
    obtain ⟨a, hi, hj⟩ := hij
    have il := (List.getElem?_eq_some_iff.mp hi).1
    have jl := (List.getElem?_eq_some_iff.mp hj).1
    have ki : ks[i]? = some (ks[i]'(by omega)) := List.getElem?_eq_getElem (by omega)
    have kj : ks[j]? = some (ks[j]'(by omega)) := List.getElem?_eq_getElem (by omega)
    have ee := co i j a _ _ hi hj ki kj
    rw [← ee] at kj
    have ri : lm[i]? = some (lm[i]'(by omega)) := List.getElem?_eq_getElem (by omega)
    have rj : lm[j]? = some (lm[j]'(by omega)) := List.getElem?_eq_getElem (by omega)
    refine ⟨_, _, ri, rj, low_alk (R := fun i j => ∃ a, ps[i]? = some a ∧ ps[j]? = some a) (nxt i j _ _ _ ki kj ri rj) fun e he e' he' hh => ?_⟩
    obtain ⟨u, u1, u2⟩ := ends ri e he
    obtain ⟨v, v1, v2⟩ := ends rj e' he'
    rw [u1, v1, Int.toNat_natCast, Int.toNat_natCast] at hh ⊢
    rw [List.getD_eq_getElem?_getD, List.getD_eq_getElem?_getD, List.getElem?_eq_getElem (show u < ps.length by omega), List.getElem?_eq_getElem (show v < ps.length by omega)] at hh
    have hh' : ps[u]'(by omega) = ps[v]'(by omega) := hh
    exact ⟨ps[u]'(by omega), List.getElem?_eq_getElem (by omega), by rw [hh']; exact List.getElem?_eq_getElem (by omega)⟩
  have nd : ps.Nodup := by
    refine List.pairwise_iff_getElem.mpr fun i j hi hj hij e => ?_
    have h1 : ps[i]? = some (ps[i]'hi) := List.getElem?_eq_getElem hi
    have h2 : ps[j]? = some (ps[j]'hj) := List.getElem?_eq_getElem hj
    rw [← e] at h2
    exact absurd (inj i j _ h1 h2) (by omega)
  have up : ps.length ≤ N + 1 := by
    have := pigeon ps (List.range (N + 1)) nd fun x hx' => List.mem_range.mpr (by have := hxN x hx'; omega)
    rwa [List.length_range] at this
  obtain ⟨i, hi⟩ := List.mem_iff_getElem?.mp hN
  have dn := rg_le prg N i hi
  have il := (List.getElem?_eq_some_iff.mp hi).1
  omega
/-- numbers told one behind the other -/
theorem num_told {keys us : List NestedKey} {vs : List Nat} (fi : FI keys keys.length us) (hl : vs.length = keys.length) (hv : ∀ (j a : Nat), vs[j]? = some a → us[a]? = keys[j]?) : NumOf keys vs := by
  have e : vs = keys.map (idxN us) := by
    refine List.ext_getElem? fun j => ?_
    rw [List.getElem?_map]
    cases hk : keys[j]? with
    | none =>
      have := List.getElem?_eq_none_iff.mp hk
      rw [List.getElem?_eq_none (by omega)]
      rfl
    | some key =>
      have jl := (List.getElem?_eq_some_iff.mp hk).1
      have hj : vs[j]? = some (vs[j]'(by omega)) := List.getElem?_eq_getElem (by omega)
      have h1 := hv j _ hj
      rw [hk] at h1
      have h2 := idxN_at (fi.all j key jl hk)
      rw [hj, nd_idx fi.nd h1 h2]
      rfl
  rw [e]
  exact fi.done
/-! ### _law_kinds -/
def spKn : Sp := fun vs H Q _ => ∃ (p : Addr) (m : Nat) (o : Int) (ds : List Deed) (ls : List Addr) (cs : List (List Int)) (mac : List MRow) (ns : List Nat) (lm : List MRow), vs = [.ref p] ∧ H p = some (.lst (ls.map V.ref)) ∧ MacL H ls lm ∧ Mch m ds o cs mac ns lm ∧ m ≤ 3 ∧ lm.length ≤ 256 ∧
  ∀ H', Same H H' → Q (.int (lm.length : Nat)) H'
def KnSt (H : Hp) (p : Addr) (lm : List MRow) (n : Nat) (σ : L2.St) (H4 : Hp) : Prop := ∃ y3 y4 y5 y6 y7 y8 y9 Kd ks many, σ = [some (.ref p), some (.ref Kd), some (.int ((many : Nat) : Int)), y3, y4, y5, y6, y7, y8, y9] ∧ H4 Kd = some (.lst ((zs ks).map V.int)) ∧ KJ lm ks many ∧ Same H H4 ∧ n = 300 - many
theorem zs_rep (n : Nat) : (List.replicate n [V.int 0]).flatten = (zs (List.replicate n 0)).map V.int := by
  induction n with
  | zero => rfl
  | succ n ih =>
    rw [List.replicate_succ, List.flatten_cons, ih]
    rfl
set_option maxHeartbeats 4000000 in
theorem ok_kn {f : Addr} {fd : FuncData} {k : Nat} (F : Fun K "_law_kinds" "_law_kinds" s_law_kinds f fd) (mx : mg "max" = none) (mt : mg "tuple" = none) (mn : mg "len" = none) (me : mg "enumerate" = none) : FnOk P w K mg base CX0 (k + 1) f fd ["machine"] spKn := by
  refine F.ok sc_law_kinds (fun vs H Q E h => ?_) (fun cdv A outer s H vs Q E hr h => ?_)
  · obtain ⟨p, m, o, ds, ls, cs, mac, ns, lm, rfl, _⟩ := h
    rfl
  · obtain ⟨p, m, o, ds, ls, cs, mac, ns, lm, rfl, ep, hmac, Mc, m3, few, qq⟩ := h
    refine ⟨_, pss_cons (ps_set (i := 1) sc_law_kinds.nd rfl (.inr rfl) (pe_op op_rep (pe_lst (pa_cons pe_int pa_nil)) (pe_callB call_len_seq (by rfl) mn PySem.boot_len (pa_cons (pv 0) pa_nil))))
    (pss_cons (ps_set (i := 2) sc_law_kinds.nd rfl (.inl rfl) pe_int)
    (pss_cons (ps_while PassesOwn.never (pt_cmpR op_lt (pv 2) (pe_op op_add (pe_callB (cr_max rfl) (by rfl) mx (by decide +kernel) (pa_cons (pv 1) pa_nil)) pe_int) (nomark _))
    (pss_cons (ps_set (i := 2) sc_law_kinds.nd rfl (.inl rfl) (pe_op op_add (pe_callB (cr_max rfl) (by rfl) mx (by decide +kernel) (pa_cons (pv 1) pa_nil)) pe_int))
    (pss_cons (ps_set (i := 3) sc_law_kinds.nd rfl (.inl rfl) (pe_ndnew (P := P) (w := w) rfl rfl))
    (pss_cons (ps_set (i := 4) sc_law_kinds.nd rfl (.inl rfl) (pe_lst pa_nil))
    (pss_cons (ps_for PassesOwn.never rfl (pi_enum (by rfl) me (pa_cons (pv 0) pa_nil)) (pg_tup rfl (pgs_cons (pg_name (i := 5) sc_law_kinds.nd rfl (.inl rfl)) (pgs_cons (pg_name (i := 6) sc_law_kinds.nd rfl (.inl rfl)) pgs_nil)))
    (pss_cons (ps_set (i := 7) sc_law_kinds.nd rfl (.inl rfl) (pe_tup (pa_cons (pe_ix ix_list (pv 1) (pv 5) (fun _ _ => rfl)) (pa_cons (pe_callTy call_tuple_of (by rfl) mt (by decide +kernel) (pa_cons (pe_lc (own := [("bit", 8), ("there", 9)]) (g := gTup K 2 (gCons (gName 8) (gCons (gName 9) gNil))) (by rfl) sc_law_kinds.nd (pi_list (pv 6)) (blkOk_by (own := [("bit", 8), ("there", 9)]) (N := N_law_kinds) (sc := defScope s_law_kinds) (by decide +kernel)) (fun _ _ _ _ _ => (pg_tup rfl (pgs_cons (pg_name (i := 8) sc_law_kinds.nd rfl (.inl rfl)) (pgs_cons (pg_name (i := 9) sc_law_kinds.nd rfl (.inl rfl)) pgs_nil)))) (fun _ _ _ _ _ => pts_nil) (fun _ _ _ _ _ => (pe_tup (pa_cons (pv 8) (pa_cons (pe_ix (r := rIxL K) ix_list (pv 1) (pv 9) (fun _ _ => rfl)) pa_nil))))) pa_nil)) pa_nil))))
    (pss_one (ps_expr (pe_bm PySem.F.plainAttrs_list PySem.F.slot_list_append PySem.F.type_list_append mt_append (pv 4) (pa_cons (pe_nsetd (P := P) (w := w) rfl rfl hr.units (pv 3) (pa_cons (pv 7) (pa_cons (pe_callB (call_lenN (P := P) (w := w) rfl rfl) (by rfl) mn PySem.boot_len (pa_cons (pv 3) pa_nil)) pa_nil))) pa_nil))))))
    (pss_one (ps_set (i := 1) sc_law_kinds.nd rfl (.inr rfl) (pv 4))))))))
    (pss_one (ps_ret (pv 2))))), ?_⟩
    have ll := awLen hmac
    have pos := Mc.pos
    have rows8 : ∀ row ∈ lm, row.length ≤ 8 := fun row hr => by
      obtain ⟨i, hi⟩ := List.mem_iff_getElem?.mp hr
      have il := (List.getElem?_eq_some_iff.mp hi).1
      obtain ⟨c, _, hk⟩ := Mc.surj il
      rw [linv_row Mc.li Mc.kk hi, List.length_map, Mc.len hk, allB_len]
      exact Nat.le_trans (Nat.pow_le_pow_right (by decide) m3) (by decide)
    refine ⟨(by show 1 ≤ sizeLine; decide), fun Z hZ => ?_⟩
    have sZ := same_new (o := .lst [.int 0]) hZ
    refine ⟨.ref p, rfl, p, _, rfl, .inl (.inl (.inl (sZ _ _ ep))), Z, ((ls.map V.ref).length : Int), _, rfl, rfl, upd_same, by omega, by rw [List.length_map]; omega, ?_, fun Kd hKd => ?_⟩
    · show 1 * ((ls.map V.ref).length : Int).toNat ≤ sizeLine
      rw [sizeLine_eq, List.length_map]
      omega
    have sK := same_new (o := .lst (List.replicate ((ls.map V.ref).length : Int).toNat [V.int 0]).flatten) hKd
    refine ⟨KnSt H p lm, ⟨_, none, none, none, none, none, none, none, Kd, List.replicate lm.length 0, 0, rfl, ?_, KJ.first, sZ.trans sK, rfl⟩, fun n σ H4 hp => ?_⟩
    · rw [upd_same, Int.toNat_natCast, List.length_map, ll, zs_rep]
    obtain ⟨y3, y4, y5, y6, y7, y8, y9, Kd, ks, many, rfl, eK, kj, s4, rfl⟩ := hp
    have kl := kj.len
    refine ⟨.int many, rfl, .ref Kd, rfl, Kd, zs ks, rfl, .inl (.inl eK), by rw [List.length_map]; omega, fun mI hmI hxI => ?_⟩
    obtain ⟨M, hM, rfl⟩ := mem_zs hmI
    have hx : ∀ x ∈ ks, x ≤ M := fun x hx => by
      have := hxI (x : Int) (List.mem_map.mpr ⟨x, hx, rfl⟩)
      omega
    have m256 : M < 256 := by
      obtain ⟨i, hi⟩ := List.mem_iff_getElem?.mp hM
      have h1 := rg_le kj.rg M i hi
      have h2 := (List.getElem?_eq_some_iff.mp hi).1
      omega
    refine ⟨_, _, rfl, rfl, _, _, rfl, rfl, _, rfl, ite2 (fun e => ?_) (fun e => ?_)⟩
    · have lt : many < M + 1 := by
        have := of_decide_eq_true e
        omega
      refine ⟨fun σ' H' => ∃ m', m' < 300 - many ∧ KnSt H p lm m' σ' H', fun σ' H' z => z, ?_⟩
      refine ⟨.ref Kd, rfl, Kd, zs ks, rfl, .inl (.inl eK), by rw [List.length_map]; omega, fun mJ hmJ hxJ => ?_⟩
      obtain rfl : mJ = (M : Int) := by
        have h1 := hxI mJ hmJ
        have h2 := hxJ _ hmI
        omega
      refine ⟨_, _, rfl, rfl, ?_⟩
      intro N hN
      have sN := same_new (o := NDO P w N []) hN
      refine ⟨Nat.zero_le _, fun Lt hLt => ?_⟩
      have sL := same_new (o := .lst []) hLt
      have s46 := sN.trans sL
      have nLt4 : H4 Lt = none := sN.free hLt
      have nNL : N ≠ Lt := ne_of_none (H := upd H4 N (NDO P w N [])) upd_same hLt
      obtain ⟨keys, hkeys⟩ : ∃ keys, keys = (ks.zip lm).map fun e => kJ e.1 (low ks e.2) := ⟨_, rfl⟩
      have keyl : keys.length = lm.length := by rw [hkeys, List.length_map, List.length_zip, kl, Nat.min_self]
      have nd0 : ND P w (upd (upd H4 N (NDO P w N [])) Lt (.lst [])) N (numE []) := nd_same (nd_nil (H := H4)) sL
      refine ⟨.ref p, rfl, p, _, rfl, .inl (.inl (s46 _ _ (s4 _ _ ep))), for_it (walk_enum (K := K) (a := p) (xs := ls.map V.ref)) (fun i σ H5 => ∃ y5 y6 y7 y8 y9 ts vs, σ = [some (.ref p), some (.ref Kd), some (.int ((M : Int) + 1)), some (.ref N), some (.ref Lt), y5, y6, y7, y8, y9] ∧ ND P w H5 N (numE ts) ∧ FI keys i (ts.map (·.1)) ∧ H5 Lt = some (.lst ((zs vs).map V.int)) ∧ vs.length = i ∧ (∀ (j a : Nat), vs[j]? = some a → (ts.map (·.1))[a]? = keys[j]?) ∧ Same H4 H5)
        ⟨y5, y6, y7, y8, y9, [], [], rfl, nd0, FI.zero, upd_same, rfl, fun j a e => by simp at e, s46⟩ (fun i σ H5 _ hp => ?_) (fun i x σ H5 H6 hi hp hy => ?_) (fun σ H5 hp => ?_)⟩
      · obtain ⟨_, _, _, _, _, _, _, _, _, _, _, _, _, s5⟩ := hp
        exact .inl (.inl (s5 _ _ (s4 _ _ ep)))
      · obtain ⟨y5, y6, y7, y8, y9, ts, vs, rfl, nd5, fi, eLt, vl, hv, s5⟩ := hp
        obtain ⟨U, x1, x2, rfl, hU, rfl, g1, g2⟩ := hy
        obtain rfl : V.int (i : Nat) = x1 := Option.some.inj g1
        have hi2 : i < ls.length := by rwa [List.length_map] at hi
        have hx2 : x2 = .ref ls[i] := by
          have g2' : (ls.map V.ref)[i]? = some x2 := g2
          rw [List.getElem?_map, List.getElem?_eq_getElem hi2] at g2'
          exact (Option.some.inj g2').symm
        subst hx2
        have sU := same_new (o := .tup [.int (i : Nat), .ref ls[i]]) hU
        have eU := upd_same (H := H5) (a := U) (o := .tup [.int (i : Nat), .ref ls[i]])
        obtain ⟨H6, hH6⟩ : ∃ H6, H6 = upd H5 U (.tup [.int (i : Nat), .ref ls[i]]) := ⟨_, rfl⟩
        rw [← hH6] at sU eU ⊢
        have s56 := s5.trans sU
        have s06 := s4.trans s56
        obtain ⟨row, hr1, qs, eqs, hqs⟩ := awGet (macl_same s06 hmac) (List.getElem?_eq_getElem hi2)
        have r8 := rows8 row (List.mem_of_getElem? hr1)
        have ql := awLen hqs
        have il := (List.getElem?_eq_some_iff.mp hr1).1
        have ki : ks[i]? = some (ks[i]'(by omega)) := List.getElem?_eq_getElem (by omega)
        obtain ⟨ki0, hki0⟩ : ∃ ki0, ki0 = ks[i]'(by omega) := ⟨_, rfl⟩
        rw [← hki0] at ki
        have eK6 := s56 _ _ eK
        refine ⟨U, [.int (i : Nat), .ref ls[i]], rfl, .inl (.inl eU), rfl, .int (i : Nat), [.ref ls[i]], rfl, .ref ls[i], [], rfl, rfl, ?_⟩
        refine ⟨.ref Kd, rfl, .int (i : Nat), rfl, Kd, _, (i : Int), .int (ki0 : Nat), rfl, rfl, .inl (.inl eK6), atI_nat (by rw [List.getElem?_map, List.getElem?_map, ki]; rfl), ?_⟩
        refine ⟨.ref ls[i], rfl, ls[i], rfl, ⟨_, .inl (.inl eqs)⟩, fun G hG => ?_⟩
        refine lc_it (walk_list (K := K) (a := ls[i]) (xs := qs.map V.ref)) (fun t H7 => ∃ ws, H7 G = some (.lst (ws.map V.ref)) ∧ PrAt H7 ws ((low ks row).take t) ∧ Same H6 H7) ⟨[], upd_same, .nil, same_new hG⟩ (fun t H7 _ hp => ?_) (fun t x H7 H8 ht hp hy => ?_) (fun H7 hp => ?_)
        · obtain ⟨_, _, _, s7⟩ := hp
          exact .inl (.inl (s7 _ _ eqs))
        · obtain ⟨ws, eG, hw, s7⟩ := hp
          obtain ⟨rfl, hx⟩ := hy
          have ht2 : t < qs.length := by rwa [List.length_map] at ht
          have hx' : x = .ref qs[t] := by
            rw [List.getElem?_map, List.getElem?_eq_getElem ht2] at hx
            exact (Option.some.inj hx).symm
          subst hx'
          obtain ⟨e, he1, he2⟩ := awGet hqs (List.getElem?_eq_getElem ht2)
          obtain ⟨j, hj1, hj2⟩ : ∃ j : Nat, e.2 = (j : Int) ∧ j < ks.length := by
            have erow := linv_row Mc.li Mc.kk hr1
            have hm := List.mem_of_getElem? he1
            rw [erow] at hm
            obtain ⟨s', hs', rfl⟩ := List.mem_map.mp hm
            obtain ⟨c, _, hk⟩ := Mc.surj il
            obtain ⟨t', ht'⟩ := List.mem_iff_getElem?.mp hs'
            obtain ⟨_, _, _, e3⟩ := awGet (Mc.row hk) ht'
            exact ⟨s'.2, rfl, by have := Mc.lt e3; omega⟩
          have gd : ks.getD e.2.toNat 0 = ks[j] := by
            rw [hj1, Int.toNat_natCast]
            simp [List.getD, List.getElem?_eq_getElem hj2]
          have wl := awLen hw
          rw [List.length_take] at wl
          refine ⟨qs[t], [.int e.1, .int e.2], rfl, .inl (.inl (s7 _ _ he2)), rfl, .int e.1, [.int e.2], rfl, .int e.2, [], rfl, rfl, rfl, .int e.1, rfl, .ref Kd, rfl, .int e.2, rfl, Kd, _, e.2, .int ((ks[j] : Nat) : Int), rfl, rfl, .inl (.inl (s7 _ _ eK6)), ?_, by show 2 ≤ sizeLine; decide, fun T hT => ?_⟩
          · rw [hj1]
            exact atI_nat (by rw [List.getElem?_map, List.getElem?_map, List.getElem?_eq_getElem hj2]; rfl)
          have sT := same_new (o := .tup [.int e.1, .int ((ks[j] : Nat) : Int)]) hT
          have eG2 := sT _ _ eG
          have tp := tups_put (o := .lst (ws.map V.ref ++ [V.ref T])) eG2
          refine ⟨_, eG2, ?_, ws ++ [T], ?_, ?_, fun b u z => ?_⟩
          · rw [List.length_map]
            exact small1000 (by omega)
          · rw [upd_same, List.map_append]
            rfl
          · rw [List.take_add_one, List.getElem?_map, he1, Option.map_some, gd]
            exact prat_stay tp (awSnoc (F := fun (q : Addr) (e' : Int × Int) => (upd H8 T (.tup [.int e.1, .int ((ks[j] : Nat) : Int)])) q = some (.tup [.int e'.1, .int e'.2])) upd_same (prat_stay (Same.tups sT) hw))
          · rw [upd_ne (ne_of_none z hG)]
            exact sT _ _ (s7 b u z)
        · obtain ⟨ws, eG, hw, s7⟩ := hp
          rw [List.length_map, ql, ← List.length_map (as := row) (f := fun e => (e.1, ((ks.getD e.2.toNat 0 : Nat) : Int))), List.take_length] at hw
          refine ⟨G, _, rfl, .inl ⟨.inl (.inl eG), fun T hT => ?_⟩⟩
          have sT := same_new (o := .tup (ws.map V.ref)) hT
          have eT := upd_same (H := H7) (a := T) (o := .tup (ws.map V.ref))
          refine ⟨(by show 2 ≤ sizeLine; decide), fun Ky hKy => ?_⟩
          have sKy := same_new (o := .tup [.int (ki0 : Nat), .ref T]) hKy
          have s8 := sT.trans sKy
          have s68 := s7.trans s8
          obtain ⟨H9, hH9⟩ : ∃ H9, H9 = upd (upd H7 T (.tup (ws.map V.ref))) Ky (.tup [.int (ki0 : Nat), .ref T]) := ⟨_, rfl⟩
          have hkey : KeyN H9 (.ref Ky) (kJ ki0 (low ks row)) := by
            rw [hH9]
            exact keyJ upd_same (sKy _ _ eT) (prat_stay (Same.tups s8) hw)
          rw [← hH9] at s8 s68 ⊢
          have s59 := sU.trans s68
          have nd9 := nd_same nd5 s59
          have eLt9 := s59 _ _ eLt
          have tl := fi.len
          rw [List.length_map] at tl
          have hkk : keys[i]? = some (kJ ki0 (low ks row)) := by
            have zz : (ks.zip lm)[i]? = some (ki0, row) := List.getElem?_zip_eq_some.mpr ⟨ki, hr1⟩
            rw [hkeys, List.getElem?_map, zz]
            rfl
          have vsl : ((zs vs).map V.int).length < sizeLine := by
            rw [List.length_map, List.length_map]
            exact small1000 (by omega)
          refine ⟨.ref Lt, rfl, .inl ⟨rfl, _, .inl (.inl eLt9)⟩, .ref N, rfl, ⟨N, _, rfl, nd9⟩, .ref Ky, rfl, .ref N, rfl, N, _, rfl, nd9, N, _, kJ ki0 (low ks row), Ky, _, rfl, rfl, nd9, hkey, ?_, fun y hy => ?_, fun hn => ?_⟩
          · rw [numE_len]
            exact small1000 (by omega)
          · obtain ⟨b, hb⟩ := getN_some hy
            obtain ⟨j, t, ht, he⟩ := numE_mem hb
            have ey : y = .int ((j : Nat) : Int) := (Prod.mk.inj (Prod.mk.inj he).2).2
            have et : (ts.map (·.1))[j]? = some (kJ ki0 (low ks row)) := by
              rw [List.getElem?_map, ht, (Prod.mk.inj he).1]
              rfl
            rw [ey]
            refine ⟨Lt, _, _, rfl, rfl, eLt9, vsl, _, _, _, _, _, ts, vs ++ [j], rfl, ?_, fi.old hkk (List.mem_of_getElem? et), ?_, ?_, fun j' a' e' => ?_, fun b' u z => ?_⟩
            · exact nd_stay nd9 (by rw [upd_ne nNL]; exact nd9.ob) (tups_put eLt9)
            · rw [upd_same]
              simp [zs]
            · rw [List.length_append, vl]
              rfl
            · by_cases hj' : j' < vs.length
              · rw [List.getElem?_append_left hj'] at e'
                exact hv j' a' e'
              · rw [List.getElem?_append_right (by omega)] at e'
                have hl2 := (List.getElem?_eq_some_iff.mp e').1
                simp only [List.length_cons, List.length_nil] at hl2
                obtain rfl : j' = i := by omega
                rw [vl, Nat.sub_self] at e'
                obtain rfl := Option.some.inj e'
                rw [et, hkk]
            · rw [upd_ne (ne_of_none z nLt4)]
              exact s59 _ _ (s5 _ _ z)
          · have nm : kJ ki0 (low ks row) ∉ ts.map (·.1) := fun z => by
              obtain ⟨t, h1, h2⟩ := List.mem_map.mp z
              obtain ⟨j, hj⟩ := List.mem_iff_getElem?.mp h1
              have := numE_some (k := kJ ki0 (low ks row)) (b := t.2) fi.nd (by rw [hj, ← h2])
              rw [hn] at this
              cases this
            have nd10 := nd_put (b := Ky) (v := .int ((numE ts).length : Nat)) nd9 hkey
            have tN : TupsStay H9 (upd H9 N (NDO P w N (numE ts ++ [(kJ ki0 (low ks row), Ky, V.int ((numE ts).length : Nat))]))) := fun b xs e => by
              rw [upd_ne (fun z => by rw [z, nd9.ob] at e; cases e)]
              exact e
            have eLt10 : upd H9 N (NDO P w N (numE ts ++ [(kJ ki0 (low ks row), Ky, V.int ((numE ts).length : Nat))])) Lt = some (.lst ((zs vs).map V.int)) := by
              rw [upd_ne nNL.symm]
              exact eLt9
            refine ⟨Lt, _, _, rfl, rfl, eLt10, vsl, _, _, _, _, _, ts ++ [(kJ ki0 (low ks row), Ky)], vs ++ [ts.length], rfl, ?_, ?_, ?_, ?_, fun j' a' e' => ?_, fun b' u z => ?_⟩
            · have nd11 := nd_stay nd10 (H' := upd (upd H9 N (NDO P w N (numE ts ++ [(kJ ki0 (low ks row), Ky, V.int ((numE ts).length : Nat))]))) Lt (.lst ((zs vs).map V.int ++ [V.int ((numE ts).length : Nat)]))) (by rw [upd_ne nNL]; exact nd10.ob) (tups_put eLt10)
              rw [numE_snoc, ← numE_len]
              exact nd11
            · rw [List.map_append]
              exact fi.new hkk nm
            · rw [upd_same]
              rw [numE_len]
              simp [zs]
            · rw [List.length_append, vl]
              rfl
            · rw [List.map_append]
              by_cases hj' : j' < vs.length
              · rw [List.getElem?_append_left hj'] at e'
                have h1 := hv j' a' e'
                have kj' : keys[j']? = some (keys[j']'(by omega)) := List.getElem?_eq_getElem (by omega)
                rw [kj'] at h1 ⊢
                rw [List.getElem?_append_left (List.getElem?_eq_some_iff.mp h1).1]
                exact h1
              · rw [List.getElem?_append_right (by omega)] at e'
                have hl2 := (List.getElem?_eq_some_iff.mp e').1
                simp only [List.length_cons, List.length_nil] at hl2
                obtain rfl : j' = i := by omega
                rw [vl, Nat.sub_self] at e'
                obtain rfl := Option.some.inj e'
                rw [List.getElem?_append_right (by rw [List.length_map]; exact Nat.le_refl _), List.length_map, Nat.sub_self, hkk]
                rfl
            · rw [upd_ne (ne_of_none z nLt4), upd_ne (ne_of_none z hN)]
              exact s59 _ _ (s5 _ _ z)
      · obtain ⟨y5, y6, y7, y8, y9, ts, vs, rfl, nd5, fi, eLt, vl, hv, s5⟩ := hp
        rw [List.length_map, ll] at vl fi
        rw [← keyl] at vl fi
        refine ⟨.ref Lt, rfl, 300 - (M + 1), by omega, _, _, _, _, _, _, _, Lt, vs, M + 1, rfl, eLt, kj.step hM hx (hkeys ▸ num_told fi vl hv), s4.trans s5, rfl⟩
    · have ge : M + 1 ≤ many := by
        have : ¬ ((many : Int) < (M : Int) + 1) := fun z => e (decide_eq_true z)
        omega
      have em := kj.done Mc hx ge
      refine ⟨.int many, rfl, ?_⟩
      rw [em]
      exact qq H4 s4
/-! ### k46: machines as data, the law -/
def prD (e : Int × Int) : PyData := .tuple [.int e.1, .int e.2]
def mrD (row : MRow) : PyData := .list (row.map prD)
theorem dp_prs {H : Hp} : ∀ {qs : List Addr} {row : MRow}, PrAt H qs row → DpAll K H (qs.map V.ref) (row.map prD)
  | _, _, .nil => .nil
  | _, _, .cons (b := e) h t => .cons (.tup (SqT.of h) (dp_ints [e.1, e.2])) (dp_prs t)
theorem dp_rows {H : Hp} : ∀ {ls : List Addr} {mac : List MRow}, MacL H ls mac → DpAll K H (ls.map V.ref) (mac.map mrD)
  | _, _, .nil => .nil
  | _, _, .cons ⟨_, h1, h2⟩ t => .cons (.lst (.inl (.inl h1)) (dp_prs h2)) (dp_rows t)
theorem lay_prs : ∀ row : MRow, PyData.canLayAll0 (row.map prD) = true ∧ PyData.depthAll (row.map prD) ≤ 1
  | [] => ⟨by simp only [List.map_nil, PyData.canLayAll0], by simp only [List.map_nil, PyData.depthAll]; decide⟩
  | e :: row => by
    obtain ⟨b1, b2⟩ := lay_prs row
    refine ⟨by simp [PyData.canLayAll0, prD, PyData.canLay0, b1], ?_⟩
    simp only [List.map_cons, PyData.depthAll, prD, PyData.depth]
    omega
theorem lay_rows : ∀ mac : List MRow, PyData.canLayAll0 (mac.map mrD) = true ∧ PyData.depthAll (mac.map mrD) ≤ 2
  | [] => ⟨by simp only [List.map_nil, PyData.canLayAll0], by simp only [List.map_nil, PyData.depthAll]; decide⟩
  | row :: mac => by
    obtain ⟨a1, a2⟩ := lay_prs row
    obtain ⟨b1, b2⟩ := lay_rows mac
    refine ⟨by simp [PyData.canLayAll0, mrD, PyData.canLay0, a1, b1], ?_⟩
    simp only [List.map_cons, PyData.depthAll, mrD, PyData.depth]
    omega
theorem shaped_mac (mac : List MRow) : SeqAt.shaped (.list (mac.map mrD)) = true := by
  obtain ⟨a1, a2⟩ := lay_rows mac
  unfold SeqAt.shaped
  simp only [PyData.canLay0, PyData.depth, a1, Bool.true_and]
  exact decide_eq_true (by omega)
theorem macl_but {a : Addr} {H H' : Hp} (b : But a H H') (t : TP H a) {ls : List Addr} {mac : List MRow} (n : ∀ l ∈ ls, l ≠ a) (h : MacL H ls mac) : MacL H' ls mac := macl_stay (b.tape t) (fun l hl xs e => b _ _ (n l hl) e) h
theorem free_tp {H : Hp} {a p : Addr} (t : TP H a) (e : H p = none) : p ≠ a := fun z => by
  obtain ⟨x, y, e1⟩ := t
  rw [z, e1] at e
  cases e
set_option maxHeartbeats 4000000 in
theorem law_run {fa fT fD fLr fM fW fO fK fY fB fV : Addr} {fd fdT fdD fdLr fdM fdW fdO fdK fdY fdB fdV : FuncData} {s : Shared} {a : Addr} {ns : List Int} {H : Hp} (F : Fun K "law" "law" s_law fa fd) (bL : Binds K fd ["script"] [])
    (GT : FnOk P w K mg base CX0 1 fT fdT ["script", "start"] (spTape K)) (kT : PySem.W.keepIn K (.ref fT) = true) (bT : Binds K fdT ["script", "start"] []) (gT : mg "_law_tape" = some (.ref fT))
    (GD : FnOk P w K mg base CX0 1 fD fdD ["tape", "many"] spDigit) (kD : PySem.W.keepIn K (.ref fD) = true) (bD : Binds K fdD ["tape", "many"] []) (gD : mg "_law_digit" = some (.ref fD))
    (GLr : FnOk P w K mg base CX0 4 fLr fdLr ["tape", "many"] spLr46) (kLr : PySem.W.keepIn K (.ref fLr) = true) (bLr : Binds K fdLr ["tape", "many"] []) (gLr : mg "_law_long_row" = some (.ref fLr))
    (GM : FnOk P w K mg base CX0 6 fM fdM ["row"] spLmN) (kM : PySem.W.keepIn K (.ref fM) = true) (bM : Binds K fdM ["row"] []) (gM : mg "least_machine" = some (.ref fM))
    (GW : FnOk P w K mg base CX0 3 fW fdW ["row", "machine"] spWr) (kW : PySem.W.keepIn K (.ref fW) = true) (bW : Binds K fdW ["row", "machine"] []) (gW : mg "_law_walk_right" = some (.ref fW))
    (GO : FnOk P w K mg base CX0 1 fO fdO ["machine"] spMo) (kO : PySem.W.keepIn K (.ref fO) = true) (bO : Binds K fdO ["machine"] []) (gO : mg "_law_met_in_order" = some (.ref fO))
    (GK : FnOk P w K mg base CX0 1 fK fdK ["machine"] spKn) (kK : PySem.W.keepIn K (.ref fK) = true) (bK : Binds K fdK ["machine"] []) (gK : mg "_law_kinds" = some (.ref fK))
    (GY : FnOk P w K mg base CX0 2 fY fdY ["tape", "row"] spOt) (kY : PySem.W.keepIn K (.ref fY) = true) (bY : Binds K fdY ["tape", "row"] []) (gY : mg "_law_otherwise" = some (.ref fY))
    (GB : FnOk P w K mg base CX0 1 fB fdB ["machine", "width", "words"] (spTb K)) (kB : PySem.W.keepIn K (.ref fB) = true) (bB : Binds K fdB ["machine", "width", "words"] []) (gB : mg "told_by" = some (.ref fB))
    (GV : FnOk P w K mg base CX0 2 fV fdV ["row", "width", "words"] (spLvs K)) (kV : PySem.W.keepIn K (.ref fV) = true) (bV : Binds K fdV ["row", "width", "words"] []) (gV : mg "_law_values" = some (.ref fV))
    (mr : mg "range" = none) (mn : mg "len" = none) (mx : mg "max" = none) (mi : mg "min" = none) (ml : mg "list" = none)
    (hlen : ns.length ≤ 63) (hbits : ∀ z ∈ ns, Builtin.Int.intBits z ≤ 1048576) (e0 : Env0 P w K mg base callerA [] s H) (hS : SqL K H a (ns.map V.int)) :
    codeAny (model P w) callerA (.call (.ref fa) ⟨[.ref a], []⟩) (CR CX0 [] P w H s (fun v _ => v = .bl true) E0) s := by
  refine fn_at (k := 9) (us := [.ref a]) (vs := [.ref a]) F sc_law ⟨rfl, by decide, by decide⟩ e0 ?_ (.cons rfl .nil) rfl (fun cdv => ?_)
  · have := bL s [.ref a] (e0.mod.kin.keeps fun b o e => (e0.bs b o e).1) rfl
    simpa using this
  have hr : Room 9 (callerA.deeper (envOfC "law" (defScope s_law) s.heap.objs.size fa cdv)) := Room.deeper (k := 9) ⟨rfl, by decide, by decide⟩ _
  have hg : (callerA.deeper (envOfC "law" (defScope s_law) s.heap.objs.size fa cdv)).guards = some [] := rfl
  have R1 := hr.mono (show 1 ≤ 9 by decide)
  have R2 := hr.mono (show 2 ≤ 9 by decide)
  have R3 := hr.mono (show 3 ≤ 9 by decide)
  have R4 := hr.mono (show 4 ≤ 9 by decide)
  have R6 := hr.mono (show 6 ≤ 9 by decide)
  refine ⟨_, pss_cons (ps_for PassesOwn.never rfl (pi_range1 (by rfl) mr (pa_cons (pe_callB (call_max2 rfl) (by rfl) mx (by decide +kernel) (pa_cons pe_int (pa_cons (pe_callB (call_min2 rfl) (by rfl) mi (by decide +kernel) (pa_cons pe_int (pa_cons (pe_callB call_len_seq (by rfl) mn PySem.boot_len (pa_cons (pv 0) pa_nil)) pa_nil))) pa_nil))) pa_nil)) (pg_name (i := 1) sc_law.nd rfl (.inl rfl))
    (pss_cons (ps_set (i := 2) sc_law.nd rfl (.inr rfl) (pe_call GT R1 (by rfl) gT kT bT .nil pass0 (pa_cons (pv 0) (pa_cons (pv 1) pa_nil))))
    (pss_cons (ps_set (i := 3) sc_law.nd rfl (.inl rfl) (pe_call GLr R4 (by rfl) gLr kLr bLr .nil pass0 (pa_cons (pv 2) (pa_cons (pe_op op_add pe_int (pe_call GD R1 (by rfl) gD kD bD .nil pass0 (pa_cons (pv 2) (pa_cons pe_int pa_nil)))) pa_nil))))
    (pss_cons (ps_set (i := 4) sc_law.nd rfl (.inl rfl) (pe_call GM R6 (by rfl) gM kM bM .nil pass0 (pa_cons (pv 3) pa_nil)))
    (pss_cons (ps_if (PW.pt (pw_or (pt_not (pt_val (pe_call GW R3 (by rfl) gW kW bW .nil pass0 (pa_cons (pv 3) (pa_cons (pv 4) pa_nil))))) (pw_or1 (pt_not (pt_val (pe_call GO R1 (by rfl) gO kO bO .nil pass0 (pa_cons (pv 4) pa_nil)))))))
    (pss_one (ps_ret pe_bl))
    pss_nil)
    (pss_cons (ps_if (PW.pt (pw_or (pt_cmpR op_ne (pe_call GK R1 (by rfl) gK kK bK .nil pass0 (pa_cons (pv 4) pa_nil)) (pe_callB call_len_seq (by rfl) mn PySem.boot_len (pa_cons (pv 4) pa_nil)) (nomark _)) (pw_or1 (pt_cmpR (op_neD hr.units) (pe_call GM R6 (by rfl) gM kM bM .nil pass0 (pa_cons (pe_call GY R2 (by rfl) gY kY bY .nil pass0 (pa_cons (pv 2) (pa_cons (pv 3) pa_nil))) pa_nil)) (pv 4) (nomark _)))))
    (pss_one (ps_ret pe_bl))
    pss_nil)
    (pss_one (ps_for PassesOwn.never rfl (pi_tup (pe_tup (pa_cons pe_int (pa_cons (pe_op op_add pe_int (pe_call GD R1 (by rfl) gD kD bD .nil pass0 (pa_cons (pv 2) (pa_cons pe_int pa_nil)))) pa_nil)))) (pg_name (i := 5) sc_law.nd rfl (.inr rfl))
    (pss_cons (ps_setLc (i := 6) (own := [("k", 7)]) (g := gName 7) (by rfl) sc_law.nd rfl rfl (sw_true rfl rfl rfl (by decide +kernel)) (pi_range1 (by rfl) mr (pa_cons (pe_ix ix_tup (pv 3) pe_int (fun _ _ => rfl)) pa_nil)) (blkOk_by (own := [("k", 7)]) (N := N_law) (sc := defScope s_law) (by decide +kernel)) (fun _ _ _ _ _ => (pg_name (i := 7) sc_law.nd rfl (.inl rfl))) (fun _ _ _ _ _ => pts_nil) (fun _ _ _ _ _ => (pe_call GD R1 (by rfl) gD kD bD .nil pass0 (pa_cons (pv 2) (pa_cons (pe_op op_shl pe_int (pv 5)) pa_nil)))))
    (pss_one (ps_if (pt_cmpR op_ne (pe_call GB R1 (by rfl) gB kB bB .nil pass0 (pa_cons (pv 4) (pa_cons (pv 5) (pa_cons (pe_callTy call_list_of (by rfl) ml (by decide +kernel) (pa_cons (pv 6) pa_nil)) pa_nil)))) (pe_ix ix_list (pe_call GV R2 (by rfl) gV kV bV .nil pass0 (pa_cons (pv 3) (pa_cons (pv 5) (pa_cons (pv 6) pa_nil)))) (pe_ix ix_tup (pv 3) pe_int (fun _ _ => rfl)) (fun _ _ => rfl)) (nomark _))
    (pss_one (ps_ret pe_bl))
    pss_nil)))))))))))
    (pss_one (ps_ret pe_bl)), ?_⟩
  refine ⟨.ref a, rfl, a, _, rfl, .inl hS, 2, _, rfl, 1, _, rfl, ?_⟩
  obtain ⟨N, hN⟩ : ∃ N : Int, N = if (if ((ns.map V.int).length : Int) < 2 then ((ns.map V.int).length : Int) else 2) > 1 then (if ((ns.map V.int).length : Int) < 2 then ((ns.map V.int).length : Int) else 2) else 1 := ⟨_, rfl⟩
  have hN1 : 0 ≤ N ∧ N ≤ 2 := by
    rw [hN]
    split <;> split <;> omega
  rw [← hN]
  refine ⟨N, rfl, by omega, by omega, for_range (lo := 0) (n := N.toNat) (fun i σ H3 => (∃ y1 y2 y3 y4 y5 y6, σ = [some (.ref a), y1, y2, y3, y4, y5, y6, none]) ∧ Same H H3) ⟨⟨none, none, none, none, none, none, rfl⟩, Same.refl H⟩ (fun i σ H3 hi hp => ?_) (fun σ H3 hp => rfl)⟩
  obtain ⟨⟨y1, y2, y3, y4, y5, y6, rfl⟩, s3⟩ := hp
  refine ⟨.ref a, rfl, .int (0 + i), rfl, a, ns, 0 + i, rfl, s3.seq hS, by omega, by omega, fun H4 tp s4 htp t4 => ?_⟩
  have nold : ∀ b o, H b = some o → b ≠ tp := fun b o e => ne_of_none (s3 _ _ e) htp
  have s04 := s3.trans s4
  refine ⟨.ref tp, rfl, .ref tp, rfl, tp, 3, rfl, by decide, by decide, t4, fun H5 z z0 z1 t5 b5 => ?_⟩
  have s05 : Same H H5 := fun b v e => b5 b v (nold b v e) (s04 _ _ e)
  refine ⟨1, z, rfl, rfl, tp, (1 + z).toNat, ?_, by omega, by omega, t5, fun H6 R ds o hrow ok t6 b6 => ?_⟩
  · rw [show (((1 + z).toNat : Nat) : Int) = 1 + z by omega]
    rfl
  obtain ⟨m, hm⟩ : ∃ m, m = (1 + z).toNat := ⟨_, rfl⟩
  rw [← hm] at hrow ok
  have m1 := ok.m1
  have m3 := ok.m3
  have l8 := ok.len
  have o0 := ok.o0
  have o1 := ok.o1
  have s06 : Same H H6 := fun b v e => b6 b v (nold b v e) (s05 _ _ e)
  refine ⟨.ref R, rfl, R, m, o, ds, rfl, hrow, ok, fun H7 p ls lm s7 np ep hmac lmo _ nls => ?_⟩
  have t7 := t6.same s7
  have npt := free_tp t6 np
  have nlt : ∀ l ∈ ls, l ≠ tp := fun l hl => free_tp t6 (nls l hl)
  have hrow7 := (Same.tups s7).row hrow
  have s07 := s06.trans s7
  obtain ⟨cs, mac, ks, M⟩ := lm_mch lmo
  have few := lmo.few
  refine ⟨.ref R, rfl, .ref p, rfl, R, p, m, o, ds, ls, cs, mac, ks, lm, rfl, hrow7, ok, ep, hmac, M, fun H8 s8 => ⟨true, rfl, iteF ?_⟩⟩
  have ep8 := s8 _ _ ep
  have hmac8 := macl_same s8 hmac
  refine ⟨.ref p, rfl, p, m, o, ds, ls, cs, mac, ks, lm, rfl, ep8, hmac8, M, fun H9 s9 => ⟨true, rfl, iteF ?_⟩⟩
  have ep9 := s9 _ _ ep8
  have hmac9 := macl_same s9 hmac8
  refine ⟨.ref p, rfl, p, m, o, ds, ls, cs, mac, ks, lm, rfl, ep9, hmac9, M, by omega, few, fun H10 s10 => ?_⟩
  have ep10 := s10 _ _ ep9
  have hmac10 := macl_same s10 hmac9
  have ll := awLen hmac
  refine ⟨.ref p, rfl, p, _, rfl, .inl (.inl (.inl ep10)), rfl, _, rfl, ite2 (fun e => ?_) (fun _ => ?_)⟩
  · exfalso
    rw [show (lm.length : Int) = ((ls.map V.ref).length : Int) by rw [List.length_map, ll]] at e
    simp at e
  have s710 := s8.trans (s9.trans s10)
  have t10 := t7.same s710
  have hrow10 := (Same.tups s710).row hrow7
  have s010 := s07.trans s710
  refine ⟨.ref tp, rfl, .ref R, rfl, tp, R, m, o, ds, rfl, t10, hrow10, ok, fun H11 R' ds' hrow' ok' os t11 b11 => ?_⟩
  have ep11 := b11 _ _ npt ep10
  have hmac11 := macl_but b11 t10 nlt hmac10
  refine ⟨R', m, o, ds', rfl, hrow', ok', fun H12 p' ls' lm' s12 np' ep' hmac' lmo' _ _ => ?_⟩
  have elm : lm = lm' := (lm_eq lmo lmo').mpr fun t => oths_nv os t
  subst elm
  have ep12 := s12 _ _ ep11
  have hmac12 := macl_same s12 hmac11
  refine ⟨.ref p, rfl, .list (lm.map mrD), .list (lm.map mrD), .lst (.inl (.inl ep')) (dp_rows hmac'), .lst (.inl (.inl ep12)) (dp_rows hmac12), shaped_mac _, shaped_mac _, _, rfl, ?_⟩
  rw [SeqAt.eqv_refl _ (SeqAt.canLay_of_shaped (shaped_mac lm))]
  refine iteF ?_
  have t12 := t11.same s12
  have b1012 : But tp H10 H12 := b11.trans (But.same s12)
  have hrow12 := (b1012.tape t10).row hrow10
  refine ⟨.ref tp, rfl, tp, 60, rfl, by decide, by decide, t12, fun H13 u u0 u1 t13 b13 => ⟨1, u, rfl, rfl, (by show 2 ≤ sizeLine; decide), fun W hW => ?_⟩⟩
  have sW := same_new (o := .tup [.int 60, .int (1 + u)]) hW
  have eW := upd_same (H := H13) (a := W) (o := .tup [.int 60, .int (1 + u)])
  have b1014 : But tp H10 (upd H13 W (.tup [.int 60, .int (1 + u)])) := b1012.trans (b13.trans (But.same sW))
  obtain ⟨H14, hH14⟩ : ∃ H14, H14 = upd H13 W (.tup [.int 60, .int (1 + u)]) := ⟨_, rfl⟩
  have t14 : TP H14 tp := by rw [hH14]; exact t13.same sW
  rw [← hH14] at b1014 eW ⊢
  refine ⟨W, rfl, ⟨_, SqT.of eW⟩, for_tup (K := K) (a := W) (xs := [.int 60, .int (1 + u)]) (fun j σ H15 => (∃ y5 y6, σ = [some (.ref a), some (.int (0 + i)), some (.ref tp), some (.ref R), some (.ref p), y5, y6, none]) ∧ TP H15 tp ∧ But tp H14 H15) ⟨⟨y5, y6, rfl⟩, t14, But.refl tp H14⟩ (fun j σ H15 _ hp => SqT.of (hp.2.2.tape t14 _ _ eW)) (fun j x σ H15 hx hp => ?_) (fun σ H15 hp => ?_)⟩
  · obtain ⟨⟨y5, y6, rfl⟩, t15, b15⟩ := hp
    obtain ⟨n, rfl, n1, n60⟩ : ∃ n : Nat, x = .int (n : Int) ∧ 1 ≤ n ∧ n ≤ 60 := by
      match j, hx with
      | 0, hx =>
        injection hx with hx
        exact ⟨60, hx.symm, by decide, by decide⟩
      | 1, hx =>
        injection hx with hx
        exact ⟨(1 + u).toNat, by rw [← hx]; congr 1; omega, by omega, by omega⟩
      | j + 2, hx => exact absurd hx (by simp)
    have b1015 := b1014.trans b15
    have hrow15 := (b1015.tape t10).row hrow10
    have ep15 := b1015 _ _ npt ep10
    have hmac15 := macl_but b1015 t10 nlt hmac10
    have em : (1 : Int) * 2 ^ ((n : Int).toNat) = 2 ^ n := by rw [Int.toNat_natCast, Int.one_mul]
    have hp2 := pw_pos n
    have hle : (2 : Int) ^ n ≤ 2 ^ 80 := pw_le (by omega)
    obtain ⟨D, rs, eR15, eD15, hd15⟩ := id hrow15
    refine ⟨.ref R, rfl, R, _, 0, .int (m : Int), rfl, rfl, SqT.of eR15, rfl, (m : Int), rfl, by omega, by omega, fun L hL => ?_⟩
    have nL := t15.ne_new hL
    refine lc_range (lo := 0) (n := ((m : Int)).toNat) (fun t H16 => ∃ xs, H16 L = some (.lst (xs.map V.int)) ∧ xs.length = t ∧ (∀ x ∈ xs, 0 ≤ x ∧ x < (2 : Int) ^ n) ∧ TP H16 tp ∧ But tp H15 H16) ⟨[], upd_same, rfl, (fun _ z => nomatch z), t15.upd nL, But.same (same_new hL)⟩ (fun t H16 ht hp => ?_) (fun H16 hp => ?_)
    · obtain ⟨xs, eL, hl, hx, t16, b16⟩ := hp
      refine ⟨rfl, .ref tp, rfl, .int (n : Int), rfl, 1, (n : Int), rfl, rfl, ⟨by omega, by omega, by decide⟩, tp, 1 * 2 ^ ((n : Int).toNat), rfl, (by rw [em]; exact hp2), (by rw [em]; exact hle), t16, fun H17 v v0 v1 t17 b17 => ?_⟩
      rw [em] at v1
      refine ⟨_, b17 _ _ nL eL, ?_, xs ++ [v], ?_, ?_, fun x hxx => ?_, t17.upd nL, ?_⟩
      · rw [List.length_map]
        exact small1000 (by omega)
      · rw [upd_same, List.map_append]
        rfl
      · rw [List.length_append, hl]
        rfl
      · rcases List.mem_append.mp hxx with h | h
        · exact hx x h
        · rw [List.mem_singleton.mp h]
          exact ⟨v0, v1⟩
      · intro b o nb e
        rw [upd_ne (ne_of_none e hL)]
        exact b17 b o nb (b16 b o nb e)
    obtain ⟨xs, eL, hl, hx, t16, b16⟩ := hp
    rw [Int.toNat_natCast] at hl
    have b1016 := b1015.trans b16
    have hrow16 := (b16.tape t15).row hrow15
    have ep16 := b16 _ _ npt ep15
    have hmac16 := macl_but b16 t15 nlt hmac15
    refine ⟨.ref p, rfl, .int (n : Int), rfl, .ref L, rfl, L, _, rfl, .inl (.inl (.inl eL)), fun L2 hL2 => ?_⟩
    have sL2 := same_new (o := .lst (xs.map V.int)) hL2
    obtain ⟨S, sm⟩ := lmo.sim
    refine ⟨p, L2, ls, lm, xs, n, fun t k v => S (crry ds xs t) k ∧ v = (vals (2 ^ n) ds xs).getD o.toNat 0 % 2 ^ t, rfl, .inl (.inl (sL2 _ _ ep16)), macl_same sL2 hmac16, .inl (.inl upd_same), fun x hx' => (hx x hx').1, n60, ⟨sm.1, (Int.emod_one _).symm⟩, sim_worth sm ok.deeds hl (by omega) hx o0 o1, ?_⟩
    rintro k0 v0 ⟨_, rfl⟩
    have hrow17 := (Same.tups sL2).row hrow16
    obtain ⟨D, rs, eR17, eD17, hd17⟩ := id hrow17
    refine ⟨.ref R, rfl, .int (n : Int), rfl, .ref L, rfl, R, L, (m : Int), o, ds, xs, n, rfl, hrow17, ok.deeds, by omega, .inl (.inl (sL2 _ _ eL)), by omega, by omega, n1, by omega, hx, fun H18 V2 s18 nV eV => ?_⟩
    have vl : (vals (2 ^ n) ds xs).length = xs.length + ds.length := vals_len _ _
    have ol : o.toNat < (vals (2 ^ n) ds xs).length := by omega
    have vr := vals_range (pw_pos n) ds xs hx ((vals (2 ^ n) ds xs).getD o.toNat 0) (by
      rw [List.getD_eq_getElem?_getD, List.getElem?_eq_getElem ol]
      exact List.getElem_mem ol)
    refine ⟨.ref R, rfl, R, _, 2, .int o, rfl, rfl, SqT.of (s18 _ _ eR17), rfl, V2, _, o, .int ((vals (2 ^ n) ds xs).getD o.toNat 0), rfl, rfl, .inl (.inl eV), atI_ints o0 (by omega), rfl, _, rfl, ?_⟩
    rw [Int.emod_eq_of_lt vr.1 vr.2]
    refine ite2 (fun e => absurd e (by simp)) (fun _ => ?_)
    have s168 := sL2.trans s18
    exact ⟨⟨_, _, rfl⟩, t16.same s168, b15.trans (b16.trans (But.same s168))⟩
  · obtain ⟨⟨y5, y6, rfl⟩, t15, b15⟩ := hp
    exact ⟨⟨_, _, _, _, _, _, rfl⟩, fun b v e => b15 b v (nold b v e) (b1014 b v (nold b v e) (s010 _ _ e))⟩
/-! ### what the top has written -/
set_option maxHeartbeats 4000000 in
theorem all_mk {l : PySem.W.OpenLaw} {w : World} {K : PySem.W.Frag} {h : Heap} {mg : Str → Option Value} {fa : Addr} (X : K.In h) (G : h.Ns mainGlobals mg) (hfa : mg "law" = some (.ref fa))
    {f0 : Addr} {od0 an0 : Option Addr} {sl0 : Array (Option Value)} {oc0 kV0 dc0 pm0 cd0 ct0 : Value}
    {f1 : Addr} {od1 an1 : Option Addr} {sl1 : Array (Option Value)} {oc1 kV1 dc1 pm1 cd1 ct1 : Value}
    {f2 : Addr} {od2 an2 : Option Addr} {sl2 : Array (Option Value)} {oc2 kV2 dc2 pm2 cd2 ct2 : Value}
    {f3 : Addr} {od3 an3 : Option Addr} {sl3 : Array (Option Value)} {oc3 kV3 dc3 pm3 cd3 ct3 : Value}
    {f4 : Addr} {od4 an4 : Option Addr} {sl4 : Array (Option Value)} {oc4 kV4 dc4 pm4 cd4 ct4 : Value}
    {f5 : Addr} {od5 an5 : Option Addr} {sl5 : Array (Option Value)} {oc5 kV5 dc5 pm5 cd5 ct5 : Value}
    {f6 : Addr} {od6 an6 : Option Addr} {sl6 : Array (Option Value)} {oc6 kV6 dc6 pm6 cd6 ct6 : Value}
    {f7 : Addr} {od7 an7 : Option Addr} {sl7 : Array (Option Value)} {oc7 kV7 dc7 pm7 cd7 ct7 : Value}
    {f8 : Addr} {od8 an8 : Option Addr} {sl8 : Array (Option Value)} {oc8 kV8 dc8 pm8 cd8 ct8 : Value}
    {f9 : Addr} {od9 an9 : Option Addr} {sl9 : Array (Option Value)} {oc9 kV9 dc9 pm9 cd9 ct9 : Value}
    {f10 : Addr} {od10 an10 : Option Addr} {sl10 : Array (Option Value)} {oc10 kV10 dc10 pm10 cd10 ct10 : Value}
    {f11 : Addr} {od11 an11 : Option Addr} {sl11 : Array (Option Value)} {oc11 kV11 dc11 pm11 cd11 ct11 : Value}
    {f12 : Addr} {od12 an12 : Option Addr} {sl12 : Array (Option Value)} {oc12 kV12 dc12 pm12 cd12 ct12 : Value}
    {f13 : Addr} {od13 an13 : Option Addr} {sl13 : Array (Option Value)} {oc13 kV13 dc13 pm13 cd13 ct13 : Value}
    {f14 : Addr} {od14 an14 : Option Addr} {sl14 : Array (Option Value)} {oc14 kV14 dc14 pm14 cd14 ct14 : Value}
    {f15 : Addr} {od15 an15 : Option Addr} {sl15 : Array (Option Value)} {oc15 kV15 dc15 pm15 cd15 ct15 : Value}
    {f16 : Addr} {od16 an16 : Option Addr} {sl16 : Array (Option Value)} {oc16 kV16 dc16 pm16 cd16 ct16 : Value}
    {f17 : Addr} {od17 an17 : Option Addr} {sl17 : Array (Option Value)} {oc17 kV17 dc17 pm17 cd17 ct17 : Value}
    {f18 : Addr} {od18 an18 : Option Addr} {sl18 : Array (Option Value)} {oc18 kV18 dc18 pm18 cd18 ct18 : Value}
    {f19 : Addr} {od19 an19 : Option Addr} {sl19 : Array (Option Value)} {oc19 kV19 dc19 pm19 cd19 ct19 : Value}
    {f20 : Addr} {od20 an20 : Option Addr} {sl20 : Array (Option Value)} {oc20 kV20 dc20 pm20 cd20 ct20 : Value}
    {f21 : Addr} {od21 an21 : Option Addr} {sl21 : Array (Option Value)} {oc21 kV21 dc21 pm21 cd21 ct21 : Value}
    {f22 : Addr} {od22 an22 : Option Addr} {sl22 : Array (Option Value)} {oc22 kV22 dc22 pm22 cd22 ct22 : Value}
    {f23 : Addr} {od23 an23 : Option Addr} {sl23 : Array (Option Value)} {oc23 kV23 dc23 pm23 cd23 ct23 : Value}
    {f24 : Addr} {od24 an24 : Option Addr} {sl24 : Array (Option Value)} {oc24 kV24 dc24 pm24 cd24 ct24 : Value}
    {f25 : Addr} {od25 an25 : Option Addr} {sl25 : Array (Option Value)} {oc25 kV25 dc25 pm25 cd25 ct25 : Value}
    {f26 : Addr} {od26 an26 : Option Addr} {sl26 : Array (Option Value)} {oc26 kV26 dc26 pm26 cd26 ct26 : Value}
    {f27 : Addr} {od27 an27 : Option Addr} {sl27 : Array (Option Value)} {oc27 kV27 dc27 pm27 cd27 ct27 : Value}
    {f28 : Addr} {od28 an28 : Option Addr} {sl28 : Array (Option Value)} {oc28 kV28 dc28 pm28 cd28 ct28 : Value}
    {f29 : Addr} {od29 an29 : Option Addr} {sl29 : Array (Option Value)} {oc29 kV29 dc29 pm29 cd29 ct29 : Value}
    {f30 : Addr} {od30 an30 : Option Addr} {sl30 : Array (Option Value)} {oc30 kV30 dc30 pm30 cd30 ct30 : Value}
    {f31 : Addr} {od31 an31 : Option Addr} {sl31 : Array (Option Value)} {oc31 kV31 dc31 pm31 cd31 ct31 : Value}
    {CWalk : Addr}
    {fWalk___init__ : Addr} {odWalk___init__ anWalk___init__ : Option Addr} {slWalk___init__ : Array (Option Value)} {ocWalk___init__ kVWalk___init__ dcWalk___init__ pmWalk___init__ cdWalk___init__ ctWalk___init__ : Value}
    {fWalk_meet : Addr} {odWalk_meet anWalk_meet : Option Addr} {slWalk_meet : Array (Option Value)} {ocWalk_meet kVWalk_meet dcWalk_meet pmWalk_meet cdWalk_meet ctWalk_meet : Value}
    (a0 : PySem.W.nsIn K mainGlobals "_wall" = some (some (.ref f0)))
    (l0 : K.lookup f0 = some ⟨oc0, od0, .func (PySem.W.fnOf "_wall" "_wall" (defArgs s_wall) (defBody s_wall) (defScope s_wall) .none kV0 dc0 pm0 an0 cd0 ct0), sl0⟩)
    (c0 : PySem.W.codeIn K cd0 "_wall" = true) (k0 : PySem.W.keepIn K (.ref f0) = true)
    (a1 : PySem.W.nsIn K mainGlobals "all_bits" = some (some (.ref f1)))
    (l1 : K.lookup f1 = some ⟨oc1, od1, .func (PySem.W.fnOf "all_bits" "all_bits" (defArgs s_all_bits) (defBody s_all_bits) (defScope s_all_bits) .none kV1 dc1 pm1 an1 cd1 ct1), sl1⟩)
    (c1 : PySem.W.codeIn K cd1 "all_bits" = true) (k1 : PySem.W.keepIn K (.ref f1) = true)
    (a2 : PySem.W.nsIn K mainGlobals "first_carry" = some (some (.ref f2)))
    (l2 : K.lookup f2 = some ⟨oc2, od2, .func (PySem.W.fnOf "first_carry" "first_carry" (defArgs s_first_carry) (defBody s_first_carry) (defScope s_first_carry) .none kV2 dc2 pm2 an2 cd2 ct2), sl2⟩)
    (c2 : PySem.W.codeIn K cd2 "first_carry" = true) (k2 : PySem.W.keepIn K (.ref f2) = true)
    (a3 : PySem.W.nsIn K mainGlobals "deed_bit" = some (some (.ref f3)))
    (l3 : K.lookup f3 = some ⟨oc3, od3, .func (PySem.W.fnOf "deed_bit" "deed_bit" (defArgs s_deed_bit) (defBody s_deed_bit) (defScope s_deed_bit) .none kV3 dc3 pm3 an3 cd3 ct3), sl3⟩)
    (c3 : PySem.W.codeIn K cd3 "deed_bit" = true) (k3 : PySem.W.keepIn K (.ref f3) = true)
    (a4 : PySem.W.nsIn K mainGlobals "bits_of" = some (some (.ref f4)))
    (l4 : K.lookup f4 = some ⟨oc4, od4, .func (PySem.W.fnOf "bits_of" "bits_of" (defArgs s_bits_of) (defBody s_bits_of) (defScope s_bits_of) .none kV4 dc4 pm4 an4 cd4 ct4), sl4⟩)
    (c4 : PySem.W.codeIn K cd4 "bits_of" = true) (k4 : PySem.W.keepIn K (.ref f4) = true)
    (a5 : PySem.W.nsIn K mainGlobals "two_or_more" = some (some (.ref f5)))
    (l5 : K.lookup f5 = some ⟨oc5, od5, .func (PySem.W.fnOf "two_or_more" "two_or_more" (defArgs s_two_or_more) (defBody s_two_or_more) (defScope s_two_or_more) .none kV5 dc5 pm5 an5 cd5 ct5), sl5⟩)
    (c5 : PySem.W.codeIn K cd5 "two_or_more" = true) (k5 : PySem.W.keepIn K (.ref f5) = true)
    (a6 : PySem.W.nsIn K mainGlobals "deed_carry" = some (some (.ref f6)))
    (l6 : K.lookup f6 = some ⟨oc6, od6, .func (PySem.W.fnOf "deed_carry" "deed_carry" (defArgs s_deed_carry) (defBody s_deed_carry) (defScope s_deed_carry) .none kV6 dc6 pm6 an6 cd6 ct6), sl6⟩)
    (c6 : PySem.W.codeIn K cd6 "deed_carry" = true) (k6 : PySem.W.keepIn K (.ref f6) = true)
    (a7 : PySem.W.nsIn K mainGlobals "carry_behind" = some (some (.ref f7)))
    (l7 : K.lookup f7 = some ⟨oc7, od7, .func (PySem.W.fnOf "carry_behind" "carry_behind" (defArgs s_carry_behind) (defBody s_carry_behind) (defScope s_carry_behind) .none kV7 dc7 pm7 an7 cd7 ct7), sl7⟩)
    (c7 : PySem.W.codeIn K cd7 "carry_behind" = true) (k7 : PySem.W.keepIn K (.ref f7) = true)
    (a8 : PySem.W.nsIn K mainGlobals "steps" = some (some (.ref f8)))
    (l8 : K.lookup f8 = some ⟨oc8, od8, .func (PySem.W.fnOf "steps" "steps" (defArgs s_steps) (defBody s_steps) (defScope s_steps) .none kV8 dc8 pm8 an8 cd8 ct8), sl8⟩)
    (c8 : PySem.W.codeIn K cd8 "steps" = true) (k8 : PySem.W.keepIn K (.ref f8) = true)
    (a9 : PySem.W.nsIn K mainGlobals "whole_machine" = some (some (.ref f9)))
    (l9 : K.lookup f9 = some ⟨oc9, od9, .func (PySem.W.fnOf "whole_machine" "whole_machine" (defArgs s_whole_machine) (defBody s_whole_machine) (defScope s_whole_machine) .none kV9 dc9 pm9 an9 cd9 ct9), sl9⟩)
    (c9 : PySem.W.codeIn K cd9 "whole_machine" = true) (k9 : PySem.W.keepIn K (.ref f9) = true)
    (a10 : PySem.W.nsIn K mainGlobals "numbered" = some (some (.ref f10)))
    (l10 : K.lookup f10 = some ⟨oc10, od10, .func (PySem.W.fnOf "numbered" "numbered" (defArgs s_numbered) (defBody s_numbered) (defScope s_numbered) .none kV10 dc10 pm10 an10 cd10 ct10), sl10⟩)
    (c10 : PySem.W.codeIn K cd10 "numbered" = true) (k10 : PySem.W.keepIn K (.ref f10) = true)
    (a11 : PySem.W.nsIn K mainGlobals "kinds_of_states" = some (some (.ref f11)))
    (l11 : K.lookup f11 = some ⟨oc11, od11, .func (PySem.W.fnOf "kinds_of_states" "kinds_of_states" (defArgs s_kinds_of_states) (defBody s_kinds_of_states) (defScope s_kinds_of_states) .none kV11 dc11 pm11 an11 cd11 ct11), sl11⟩)
    (c11 : PySem.W.codeIn K cd11 "kinds_of_states" = true) (k11 : PySem.W.keepIn K (.ref f11) = true)
    (a12 : PySem.W.nsIn K mainGlobals "least_machine" = some (some (.ref f12)))
    (l12 : K.lookup f12 = some ⟨oc12, od12, .func (PySem.W.fnOf "least_machine" "least_machine" (defArgs s_least_machine) (defBody s_least_machine) (defScope s_least_machine) .none kV12 dc12 pm12 an12 cd12 ct12), sl12⟩)
    (c12 : PySem.W.codeIn K cd12 "least_machine" = true) (k12 : PySem.W.keepIn K (.ref f12) = true)
    (a13 : PySem.W.nsIn K mainGlobals "told_by" = some (some (.ref f13)))
    (l13 : K.lookup f13 = some ⟨oc13, od13, .func (PySem.W.fnOf "told_by" "told_by" (defArgs s_told_by) (defBody s_told_by) (defScope s_told_by) .none kV13 dc13 pm13 an13 cd13 ct13), sl13⟩)
    (c13 : PySem.W.codeIn K cd13 "told_by" = true) (k13 : PySem.W.keepIn K (.ref f13) = true)
    (a14 : PySem.W.nsIn K mainGlobals "_law_tape" = some (some (.ref f14)))
    (l14 : K.lookup f14 = some ⟨oc14, od14, .func (PySem.W.fnOf "_law_tape" "_law_tape" (defArgs s_law_tape) (defBody s_law_tape) (defScope s_law_tape) .none kV14 dc14 pm14 an14 cd14 ct14), sl14⟩)
    (c14 : PySem.W.codeIn K cd14 "_law_tape" = true) (k14 : PySem.W.keepIn K (.ref f14) = true)
    (a15 : PySem.W.nsIn K mainGlobals "_law_digit" = some (some (.ref f15)))
    (l15 : K.lookup f15 = some ⟨oc15, od15, .func (PySem.W.fnOf "_law_digit" "_law_digit" (defArgs s_law_digit) (defBody s_law_digit) (defScope s_law_digit) .none kV15 dc15 pm15 an15 cd15 ct15), sl15⟩)
    (c15 : PySem.W.codeIn K cd15 "_law_digit" = true) (k15 : PySem.W.keepIn K (.ref f15) = true)
    (a16 : PySem.W.nsIn K mainGlobals "_law_deed" = some (some (.ref f16)))
    (l16 : K.lookup f16 = some ⟨oc16, od16, .func (PySem.W.fnOf "_law_deed" "_law_deed" (defArgs s_law_deed) (defBody s_law_deed) (defScope s_law_deed) .none kV16 dc16 pm16 an16 cd16 ct16), sl16⟩)
    (c16 : PySem.W.codeIn K cd16 "_law_deed" = true) (k16 : PySem.W.keepIn K (.ref f16) = true)
    (a17 : PySem.W.nsIn K mainGlobals "_law_carrying" = some (some (.ref f17)))
    (l17 : K.lookup f17 = some ⟨oc17, od17, .func (PySem.W.fnOf "_law_carrying" "_law_carrying" (defArgs s_law_carrying) (defBody s_law_carrying) (defScope s_law_carrying) .none kV17 dc17 pm17 an17 cd17 ct17), sl17⟩)
    (c17 : PySem.W.codeIn K cd17 "_law_carrying" = true) (k17 : PySem.W.keepIn K (.ref f17) = true)
    (a18 : PySem.W.nsIn K mainGlobals "_law_row" = some (some (.ref f18)))
    (l18 : K.lookup f18 = some ⟨oc18, od18, .func (PySem.W.fnOf "_law_row" "_law_row" (defArgs s_law_row) (defBody s_law_row) (defScope s_law_row) .none kV18 dc18 pm18 an18 cd18 ct18), sl18⟩)
    (c18 : PySem.W.codeIn K cd18 "_law_row" = true) (k18 : PySem.W.keepIn K (.ref f18) = true)
    (a19 : PySem.W.nsIn K mainGlobals "_law_bit" = some (some (.ref f19)))
    (l19 : K.lookup f19 = some ⟨oc19, od19, .func (PySem.W.fnOf "_law_bit" "_law_bit" (defArgs s_law_bit) (defBody s_law_bit) (defScope s_law_bit) .none kV19 dc19 pm19 an19 cd19 ct19), sl19⟩)
    (c19 : PySem.W.codeIn K cd19 "_law_bit" = true) (k19 : PySem.W.keepIn K (.ref f19) = true)
    (a20 : PySem.W.nsIn K mainGlobals "_law_carry" = some (some (.ref f20)))
    (l20 : K.lookup f20 = some ⟨oc20, od20, .func (PySem.W.fnOf "_law_carry" "_law_carry" (defArgs s_law_carry) (defBody s_law_carry) (defScope s_law_carry) .none kV20 dc20 pm20 an20 cd20 ct20), sl20⟩)
    (c20 : PySem.W.codeIn K cd20 "_law_carry" = true) (k20 : PySem.W.keepIn K (.ref f20) = true)
    (a21 : PySem.W.nsIn K mainGlobals "_law_step" = some (some (.ref f21)))
    (l21 : K.lookup f21 = some ⟨oc21, od21, .func (PySem.W.fnOf "_law_step" "_law_step" (defArgs s_law_step) (defBody s_law_step) (defScope s_law_step) .none kV21 dc21 pm21 an21 cd21 ct21), sl21⟩)
    (c21 : PySem.W.codeIn K cd21 "_law_step" = true) (k21 : PySem.W.keepIn K (.ref f21) = true)
    (a22 : PySem.W.nsIn K mainGlobals "_law_first" = some (some (.ref f22)))
    (l22 : K.lookup f22 = some ⟨oc22, od22, .func (PySem.W.fnOf "_law_first" "_law_first" (defArgs s_law_first) (defBody s_law_first) (defScope s_law_first) .none kV22 dc22 pm22 an22 cd22 ct22), sl22⟩)
    (c22 : PySem.W.codeIn K cd22 "_law_first" = true) (k22 : PySem.W.keepIn K (.ref f22) = true)
    (a23 : PySem.W.nsIn K mainGlobals "_law_bits" = some (some (.ref f23)))
    (l23 : K.lookup f23 = some ⟨oc23, od23, .func (PySem.W.fnOf "_law_bits" "_law_bits" (defArgs s_law_bits) (defBody s_law_bits) (defScope s_law_bits) .none kV23 dc23 pm23 an23 cd23 ct23), sl23⟩)
    (c23 : PySem.W.codeIn K cd23 "_law_bits" = true) (k23 : PySem.W.keepIn K (.ref f23) = true)
    (a24 : PySem.W.nsIn K mainGlobals "_law_long_row" = some (some (.ref f24)))
    (l24 : K.lookup f24 = some ⟨oc24, od24, .func (PySem.W.fnOf "_law_long_row" "_law_long_row" (defArgs s_law_long_row) (defBody s_law_long_row) (defScope s_law_long_row) .none kV24 dc24 pm24 an24 cd24 ct24), sl24⟩)
    (c24 : PySem.W.codeIn K cd24 "_law_long_row" = true) (k24 : PySem.W.keepIn K (.ref f24) = true)
    (a25 : PySem.W.nsIn K mainGlobals "_law_otherwise" = some (some (.ref f25)))
    (l25 : K.lookup f25 = some ⟨oc25, od25, .func (PySem.W.fnOf "_law_otherwise" "_law_otherwise" (defArgs s_law_otherwise) (defBody s_law_otherwise) (defScope s_law_otherwise) .none kV25 dc25 pm25 an25 cd25 ct25), sl25⟩)
    (c25 : PySem.W.codeIn K cd25 "_law_otherwise" = true) (k25 : PySem.W.keepIn K (.ref f25) = true)
    (a26 : PySem.W.nsIn K mainGlobals "_law_walk_right" = some (some (.ref f26)))
    (l26 : K.lookup f26 = some ⟨oc26, od26, .func (PySem.W.fnOf "_law_walk_right" "_law_walk_right" (defArgs s_law_walk_right) (defBody s_law_walk_right) (defScope s_law_walk_right) .none kV26 dc26 pm26 an26 cd26 ct26), sl26⟩)
    (c26 : PySem.W.codeIn K cd26 "_law_walk_right" = true) (k26 : PySem.W.keepIn K (.ref f26) = true)
    (a27 : PySem.W.nsIn K mainGlobals "_law_met_in_order" = some (some (.ref f27)))
    (l27 : K.lookup f27 = some ⟨oc27, od27, .func (PySem.W.fnOf "_law_met_in_order" "_law_met_in_order" (defArgs s_law_met_in_order) (defBody s_law_met_in_order) (defScope s_law_met_in_order) .none kV27 dc27 pm27 an27 cd27 ct27), sl27⟩)
    (c27 : PySem.W.codeIn K cd27 "_law_met_in_order" = true) (k27 : PySem.W.keepIn K (.ref f27) = true)
    (a28 : PySem.W.nsIn K mainGlobals "_law_kinds" = some (some (.ref f28)))
    (l28 : K.lookup f28 = some ⟨oc28, od28, .func (PySem.W.fnOf "_law_kinds" "_law_kinds" (defArgs s_law_kinds) (defBody s_law_kinds) (defScope s_law_kinds) .none kV28 dc28 pm28 an28 cd28 ct28), sl28⟩)
    (c28 : PySem.W.codeIn K cd28 "_law_kinds" = true) (k28 : PySem.W.keepIn K (.ref f28) = true)
    (a29 : PySem.W.nsIn K mainGlobals "_law_value" = some (some (.ref f29)))
    (l29 : K.lookup f29 = some ⟨oc29, od29, .func (PySem.W.fnOf "_law_value" "_law_value" (defArgs s_law_value) (defBody s_law_value) (defScope s_law_value) .none kV29 dc29 pm29 an29 cd29 ct29), sl29⟩)
    (c29 : PySem.W.codeIn K cd29 "_law_value" = true) (k29 : PySem.W.keepIn K (.ref f29) = true)
    (a30 : PySem.W.nsIn K mainGlobals "_law_values" = some (some (.ref f30)))
    (l30 : K.lookup f30 = some ⟨oc30, od30, .func (PySem.W.fnOf "_law_values" "_law_values" (defArgs s_law_values) (defBody s_law_values) (defScope s_law_values) .none kV30 dc30 pm30 an30 cd30 ct30), sl30⟩)
    (c30 : PySem.W.codeIn K cd30 "_law_values" = true) (k30 : PySem.W.keepIn K (.ref f30) = true)
    (a31 : PySem.W.nsIn K mainGlobals "law" = some (some (.ref f31)))
    (l31 : K.lookup f31 = some ⟨oc31, od31, .func (PySem.W.fnOf "law" "law" (defArgs s_law) (defBody s_law) (defScope s_law) .none kV31 dc31 pm31 an31 cd31 ct31), sl31⟩)
    (c31 : PySem.W.codeIn K cd31 "law" = true) (k31 : PySem.W.keepIn K (.ref f31) = true)
    (oa_Walk : PySem.W.nsIn K mainGlobals "Walk" = some (some (.ref CWalk)))
    (ma_Walk___init__ : PySem.W.findIn K (.ref CWalk) "__init__" = some (some (.ref fWalk___init__)))
    (mi_Walk___init__ : PySem.W.isFn K (.ref fWalk___init__) = true)
    (ml_Walk___init__ : K.lookup fWalk___init__ = some ⟨ocWalk___init__, odWalk___init__, .func (PySem.W.fnOf "__init__" "Walk.__init__" (defArgs sWalk___init__) (defBody sWalk___init__) (defScope sWalk___init__) .none kVWalk___init__ dcWalk___init__ pmWalk___init__ anWalk___init__ cdWalk___init__ ctWalk___init__), slWalk___init__⟩)
    (mc_Walk___init__ : PySem.W.codeIn K cdWalk___init__ "Walk.__init__" = true)
    (mk_Walk___init__ : PySem.W.keepIn K (.ref fWalk___init__) = true)
    (ma_Walk_meet : PySem.W.findIn K (.ref CWalk) "meet" = some (some (.ref fWalk_meet)))
    (mi_Walk_meet : PySem.W.isFn K (.ref fWalk_meet) = true)
    (ml_Walk_meet : K.lookup fWalk_meet = some ⟨ocWalk_meet, odWalk_meet, .func (PySem.W.fnOf "meet" "Walk.meet" (defArgs sWalk_meet) (defBody sWalk_meet) (defScope sWalk_meet) .none kVWalk_meet dcWalk_meet pmWalk_meet anWalk_meet cdWalk_meet ctWalk_meet), slWalk_meet⟩)
    (mc_Walk_meet : PySem.W.codeIn K cdWalk_meet "Walk.meet" = true)
    (mk_Walk_meet : PySem.W.keepIn K (.ref fWalk_meet) = true)
    (pg_Walk : PySem.W.plainGet K CWalk Str.empty = true)
    (hd_Walk : PySem.W.hasDictIn K CWalk = true)
    (po_Walk : PySem.W.plainOver K CWalk = true)
    (sa_Walk : PySem.W.findIn K (.ref CWalk) "__setattr__" = some (some (.builtin "object.__setattr__")))
    (mk_Walk : PySem.W.makesIn K CWalk = true)
    (kc_Walk : PySem.W.keepIn K (.ref CWalk) = true)
    (na_Walk_met : PySem.W.findIn K (.ref CWalk) "met" = some none)
    (na_Walk_numbers : PySem.W.findIn K (.ref CWalk) "numbers" = some none)
    (na_Walk_ways : PySem.W.findIn K (.ref CWalk) "ways" = some none)
    (z_abs : PySem.W.nsIn K mainGlobals "abs" = some none)
    (z_enumerate : PySem.W.nsIn K mainGlobals "enumerate" = some none)
    (z_int : PySem.W.nsIn K mainGlobals "int" = some none)
    (z_len : PySem.W.nsIn K mainGlobals "len" = some none)
    (z_list : PySem.W.nsIn K mainGlobals "list" = some none)
    (z_max : PySem.W.nsIn K mainGlobals "max" = some none)
    (z_min : PySem.W.nsIn K mainGlobals "min" = some none)
    (z_range : PySem.W.nsIn K mainGlobals "range" = some none)
    (z_sorted : PySem.W.nsIn K mainGlobals "sorted" = some none)
    (z_tuple : PySem.W.nsIn K mainGlobals "tuple" = some none)
    (z_zip : PySem.W.nsIn K mainGlobals "zip" = some none)
    : ∀ (s : Shared) (a : Addr) (ns : List Int) (base : Heap) (H : Hp), ns.length ≤ 63 → (∀ z ∈ ns, Builtin.Int.intBits z ≤ 1048576) → Env0 l.prog w K mg base callerA [] s H → SqL K H a (ns.map V.int) →
      codeAny (model l.prog w) callerA (.call (.ref fa) ⟨[.ref a], []⟩) (CR CX0 [] l.prog w H s (fun v _ => v = .bl true) E0) s := by
  have F_wall := fun_mk (st := s_wall) l0 c0 k0
  have b_wall := F_wall.binds (ps := ["k"]) fun _ _ _ _ _ _ us hl => match us, hl with | [_], _ => rfl
  have g_wall := PySem.W.mg_of X G a0
  have F_all_bits := fun_mk (st := s_all_bits) l1 c1 k1
  have b_all_bits := F_all_bits.binds (ps := ["many"]) fun _ _ _ _ _ _ us hl => match us, hl with | [_], _ => rfl
  have g_all_bits := PySem.W.mg_of X G a1
  have F_first_carry := fun_mk (st := s_first_carry) l2 c2 k2
  have b_first_carry := F_first_carry.binds (ps := ["row"]) fun _ _ _ _ _ _ us hl => match us, hl with | [_], _ => rfl
  have g_first_carry := PySem.W.mg_of X G a2
  have F_deed_bit := fun_mk (st := s_deed_bit) l3 c3 k3
  have b_deed_bit := F_deed_bit.binds (ps := ["deed", "held", "told"]) fun _ _ _ _ _ _ us hl => match us, hl with | [_, _, _], _ => rfl
  have g_deed_bit := PySem.W.mg_of X G a3
  have F_bits_of := fun_mk (st := s_bits_of) l4 c4 k4
  have b_bits_of := F_bits_of.binds (ps := ["row", "carry", "bits"]) fun _ _ _ _ _ _ us hl => match us, hl with | [_, _, _], _ => rfl
  have g_bits_of := PySem.W.mg_of X G a4
  have F_two_or_more := fun_mk (st := s_two_or_more) l5 c5 k5
  have b_two_or_more := F_two_or_more.binds (ps := ["one", "other", "third"]) fun _ _ _ _ _ _ us hl => match us, hl with | [_, _, _], _ => rfl
  have g_two_or_more := PySem.W.mg_of X G a5
  have F_deed_carry := fun_mk (st := s_deed_carry) l6 c6 k6
  have b_deed_carry := F_deed_carry.binds (ps := ["deed", "held", "told"]) fun _ _ _ _ _ _ us hl => match us, hl with | [_, _, _], _ => rfl
  have g_deed_carry := PySem.W.mg_of X G a6
  have F_carry_behind := fun_mk (st := s_carry_behind) l7 c7 k7
  have b_carry_behind := F_carry_behind.binds (ps := ["row", "carry", "told"]) fun _ _ _ _ _ _ us hl => match us, hl with | [_, _, _], _ => rfl
  have g_carry_behind := PySem.W.mg_of X G a7
  have F_steps := fun_mk (st := s_steps) l8 c8 k8
  have b_steps := F_steps.binds (ps := ["row", "carry"]) fun _ _ _ _ _ _ us hl => match us, hl with | [_, _], _ => rfl
  have g_steps := PySem.W.mg_of X G a8
  have F_whole_machine := fun_mk (st := s_whole_machine) l9 c9 k9
  have b_whole_machine := F_whole_machine.binds (ps := ["row"]) fun _ _ _ _ _ _ us hl => match us, hl with | [_], _ => rfl
  have g_whole_machine := PySem.W.mg_of X G a9
  have F_numbered := fun_mk (st := s_numbered) l10 c10 k10
  have b_numbered := F_numbered.binds (ps := ["looks"]) fun _ _ _ _ _ _ us hl => match us, hl with | [_], _ => rfl
  have g_numbered := PySem.W.mg_of X G a10
  have F_kinds_of_states := fun_mk (st := s_kinds_of_states) l11 c11 k11
  have b_kinds_of_states := F_kinds_of_states.binds (ps := ["machine"]) fun _ _ _ _ _ _ us hl => match us, hl with | [_], _ => rfl
  have g_kinds_of_states := PySem.W.mg_of X G a11
  have F_least_machine := fun_mk (st := s_least_machine) l12 c12 k12
  have b_least_machine := F_least_machine.binds (ps := ["row"]) fun _ _ _ _ _ _ us hl => match us, hl with | [_], _ => rfl
  have g_least_machine := PySem.W.mg_of X G a12
  have F_told_by := fun_mk (st := s_told_by) l13 c13 k13
  have b_told_by := F_told_by.binds (ps := ["machine", "width", "words"]) fun _ _ _ _ _ _ us hl => match us, hl with | [_, _, _], _ => rfl
  have g_told_by := PySem.W.mg_of X G a13
  have F_law_tape := fun_mk (st := s_law_tape) l14 c14 k14
  have b_law_tape := F_law_tape.binds (ps := ["script", "start"]) fun _ _ _ _ _ _ us hl => match us, hl with | [_, _], _ => rfl
  have g_law_tape := PySem.W.mg_of X G a14
  have F_law_digit := fun_mk (st := s_law_digit) l15 c15 k15
  have b_law_digit := F_law_digit.binds (ps := ["tape", "many"]) fun _ _ _ _ _ _ us hl => match us, hl with | [_, _], _ => rfl
  have g_law_digit := PySem.W.mg_of X G a15
  have F_law_deed := fun_mk (st := s_law_deed) l16 c16 k16
  have b_law_deed := F_law_deed.binds (ps := ["tape", "ahead", "left"]) fun _ _ _ _ _ _ us hl => match us, hl with | [_, _, _], _ => rfl
  have g_law_deed := PySem.W.mg_of X G a16
  have F_law_carrying := fun_mk (st := s_law_carrying) l17 c17 k17
  have b_law_carrying := F_law_carrying.binds (ps := ["deeds"]) fun _ _ _ _ _ _ us hl => match us, hl with | [_], _ => rfl
  have g_law_carrying := PySem.W.mg_of X G a17
  have F_law_row := fun_mk (st := s_law_row) l18 c18 k18
  have b_law_row := F_law_row.binds (ps := ["tape", "many", "most", "left"]) fun _ _ _ _ _ _ us hl => match us, hl with | [_, _, _, _], _ => rfl
  have g_law_row := PySem.W.mg_of X G a18
  have F_law_bit := fun_mk (st := s_law_bit) l19 c19 k19
  have b_law_bit := F_law_bit.binds (ps := ["deed", "carry", "bits"]) fun _ _ _ _ _ _ us hl => match us, hl with | [_, _, _], _ => rfl
  have g_law_bit := PySem.W.mg_of X G a19
  have F_law_carry := fun_mk (st := s_law_carry) l20 c20 k20
  have b_law_carry := F_law_carry.binds (ps := ["deed", "carry", "bits"]) fun _ _ _ _ _ _ us hl => match us, hl with | [_, _, _], _ => rfl
  have g_law_carry := PySem.W.mg_of X G a20
  have F_law_step := fun_mk (st := s_law_step) l21 c21 k21
  have b_law_step := F_law_step.binds (ps := ["row", "carry", "bits"]) fun _ _ _ _ _ _ us hl => match us, hl with | [_, _, _], _ => rfl
  have g_law_step := PySem.W.mg_of X G a21
  have F_law_first := fun_mk (st := s_law_first) l22 c22 k22
  have b_law_first := F_law_first.binds (ps := ["row"]) fun _ _ _ _ _ _ us hl => match us, hl with | [_], _ => rfl
  have g_law_first := PySem.W.mg_of X G a22
  have F_law_bits := fun_mk (st := s_law_bits) l23 c23 k23
  have b_law_bits := F_law_bits.binds (ps := ["many"]) fun _ _ _ _ _ _ us hl => match us, hl with | [_], _ => rfl
  have g_law_bits := PySem.W.mg_of X G a23
  have F_law_long_row := fun_mk (st := s_law_long_row) l24 c24 k24
  have b_law_long_row := F_law_long_row.binds (ps := ["tape", "many"]) fun _ _ _ _ _ _ us hl => match us, hl with | [_, _], _ => rfl
  have g_law_long_row := PySem.W.mg_of X G a24
  have F_law_otherwise := fun_mk (st := s_law_otherwise) l25 c25 k25
  have b_law_otherwise := F_law_otherwise.binds (ps := ["tape", "row"]) fun _ _ _ _ _ _ us hl => match us, hl with | [_, _], _ => rfl
  have g_law_otherwise := PySem.W.mg_of X G a25
  have F_law_walk_right := fun_mk (st := s_law_walk_right) l26 c26 k26
  have b_law_walk_right := F_law_walk_right.binds (ps := ["row", "machine"]) fun _ _ _ _ _ _ us hl => match us, hl with | [_, _], _ => rfl
  have g_law_walk_right := PySem.W.mg_of X G a26
  have F_law_met_in_order := fun_mk (st := s_law_met_in_order) l27 c27 k27
  have b_law_met_in_order := F_law_met_in_order.binds (ps := ["machine"]) fun _ _ _ _ _ _ us hl => match us, hl with | [_], _ => rfl
  have g_law_met_in_order := PySem.W.mg_of X G a27
  have F_law_kinds := fun_mk (st := s_law_kinds) l28 c28 k28
  have b_law_kinds := F_law_kinds.binds (ps := ["machine"]) fun _ _ _ _ _ _ us hl => match us, hl with | [_], _ => rfl
  have g_law_kinds := PySem.W.mg_of X G a28
  have F_law_value := fun_mk (st := s_law_value) l29 c29 k29
  have b_law_value := F_law_value.binds (ps := ["deed", "told", "full"]) fun _ _ _ _ _ _ us hl => match us, hl with | [_, _, _], _ => rfl
  have g_law_value := PySem.W.mg_of X G a29
  have F_law_values := fun_mk (st := s_law_values) l30 c30 k30
  have b_law_values := F_law_values.binds (ps := ["row", "width", "words"]) fun _ _ _ _ _ _ us hl => match us, hl with | [_, _, _], _ => rfl
  have g_law_values := PySem.W.mg_of X G a30
  have F_law := fun_mk (st := s_law) l31 c31 k31
  have b_law := F_law.binds (ps := ["script"]) fun _ _ _ _ _ _ us hl => match us, hl with | [_], _ => rfl
  obtain rfl : fa = f31 := by
    have e := hfa.symm.trans (PySem.W.mg_of X G a31)
    cases e
    rfl
  have FWalk___init__ := fun_mk (st := sWalk___init__) ml_Walk___init__ mc_Walk___init__ mk_Walk___init__
  have MWalk___init__ : Meth K CWalk "__init__" fWalk___init__ := ⟨ma_Walk___init__, mi_Walk___init__, mk_Walk___init__⟩
  have FWalk_meet := fun_mk (st := sWalk_meet) ml_Walk_meet mc_Walk_meet mk_Walk_meet
  have MWalk_meet : Meth K CWalk "meet" fWalk_meet := ⟨ma_Walk_meet, mi_Walk_meet, mk_Walk_meet⟩
  have TWalk : Cls K CWalk := ⟨pg_Walk, hd_Walk, po_Walk, sa_Walk⟩
  have gWalk := PySem.W.mg_of X G oa_Walk
  have KWalk : Mk K CWalk fWalk___init__ := ⟨mk_Walk, ma_Walk___init__, mi_Walk___init__, kc_Walk⟩
  have m_abs := PySem.W.mg_none_of X G z_abs
  have m_enumerate := PySem.W.mg_none_of X G z_enumerate
  have m_int := PySem.W.mg_none_of X G z_int
  have m_len := PySem.W.mg_none_of X G z_len
  have m_list := PySem.W.mg_none_of X G z_list
  have m_max := PySem.W.mg_none_of X G z_max
  have m_min := PySem.W.mg_none_of X G z_min
  have m_range := PySem.W.mg_none_of X G z_range
  have m_sorted := PySem.W.mg_none_of X G z_sorted
  have m_tuple := PySem.W.mg_none_of X G z_tuple
  have m_zip := PySem.W.mg_none_of X G z_zip
  intro s a ns base H hlen hbits e0 hS
  have GT := ok_tape (P := l.prog) (w := w) (mg := mg) (base := base) (k := 0) F_law_tape m_abs m_len
  have GD := ok_digit (P := l.prog) (w := w) (mg := mg) (base := base) (k := 0) F_law_digit
  have GE := ok_td (P := l.prog) (w := w) (mg := mg) (base := base) (k := 0) F_law_deed GD F_law_digit.kp b_law_digit g_law_digit
  have GCr := ok_cr (P := l.prog) (w := w) (mg := mg) (base := base) (k := 0) F_law_carrying m_len
  have GR := ok_tr (P := l.prog) (w := w) (mg := mg) (base := base) (k := 0) F_law_row GD F_law_digit.kp GE F_law_deed.kp GCr F_law_carrying.kp b_law_digit b_law_deed b_law_carrying g_law_digit g_law_deed g_law_carrying m_tuple m_range m_len
  have GF := ok_fc (P := l.prog) (w := w) (mg := mg) (base := base) (k := 0) F_first_carry m_tuple
  have GDb := ok_db (P := l.prog) (w := w) (mg := mg) (base := base) (k := 0) F_deed_bit
  have GB := ok_bo (P := l.prog) (w := w) (mg := mg) (base := base) (k := 0) F_bits_of GDb F_deed_bit.kp b_deed_bit g_deed_bit m_list m_tuple m_zip
  have GTm := ok_tm (P := l.prog) (w := w) (mg := mg) (base := base) (k := 0) F_two_or_more
  have GDc := ok_dc (P := l.prog) (w := w) (mg := mg) (base := base) (k := 0) F_deed_carry GTm F_two_or_more.kp b_two_or_more g_two_or_more
  have GCb := ok_cb (P := l.prog) (w := w) (mg := mg) (base := base) (k := 0) F_carry_behind GDc F_deed_carry.kp b_deed_carry g_deed_carry m_tuple m_zip
  have GAl := ok_all (P := l.prog) (w := w) (mg := mg) (base := base) (k := 0) F_all_bits m_range
  have GSt := ok_st (P := l.prog) (w := w) (mg := mg) (base := base) (k := 0) F_steps GAl F_all_bits.kp b_all_bits g_all_bits GB F_bits_of.kp b_bits_of g_bits_of GCb F_carry_behind.kp b_carry_behind g_carry_behind
  have WT : WCls K mg CWalk := ⟨TWalk, na_Walk_met, na_Walk_numbers, na_Walk_ways, gWalk⟩
  have bI := FWalk___init__.binds (ps := ["self", "first"]) fun _ _ _ _ _ _ us hl => match us, hl with | [_, _], _ => rfl
  have bM := FWalk_meet.binds (ps := ["self", "thing", "ahead", "bits"]) fun _ _ _ _ _ _ us hl => match us, hl with | [_, _, _, _], _ => rfl
  have GI := ok_wi (P := l.prog) (w := w) (mg := mg) (base := base) (k := 0) FWalk___init__ WT
  have GM := ok_wm (P := l.prog) (w := w) (mg := mg) (base := base) (k := 0) FWalk_meet WT m_len
  have GWh := ok_wh (P := l.prog) (w := w) (mg := mg) (base := base) (k := 0) F_whole_machine WT GAl F_all_bits.kp b_all_bits g_all_bits GF F_first_carry.kp b_first_carry g_first_carry GSt F_steps.kp b_steps g_steps KWalk GI bI MWalk_meet GM bM m_len m_zip
  have GN := ok_nu (P := l.prog) (w := w) (mg := mg) (base := base) (k := 0) F_numbered m_len
  have GKi := ok_ki (P := l.prog) (w := w) (mg := mg) (base := base) (k := 0) F_kinds_of_states GN F_numbered.kp b_numbered g_numbered m_max m_tuple m_list m_zip
  have GLm := ok_lmN (P := l.prog) (w := w) (mg := mg) (base := base) (k := 0) F_least_machine GWh F_whole_machine.kp b_whole_machine g_whole_machine GKi F_kinds_of_states.kp b_kinds_of_states g_kinds_of_states m_len m_zip
  have GLb := ok_lb (P := l.prog) (w := w) (mg := mg) (base := base) (k := 0) F_law_bit m_int m_max
  have GLc := ok_lc (P := l.prog) (w := w) (mg := mg) (base := base) (k := 0) F_law_carry m_int
  have GLs := ok_ls (P := l.prog) (w := w) (mg := mg) (base := base) (k := 0) F_law_step GLb F_law_bit.kp b_law_bit g_law_bit GLc F_law_carry.kp b_law_carry g_law_carry m_list m_tuple m_zip
  have GLf := ok_lf (P := l.prog) (w := w) (mg := mg) (base := base) (k := 0) F_law_first m_tuple m_int
  have GAb := ok_abf (P := l.prog) (w := w) (mg := mg) (base := base) (k := 0) F_law_bits m_range m_sorted
  have GTb := ok_tb (P := l.prog) (w := w) (mg := mg) (base := base) (k := 0) F_told_by m_range
  have GLw := ok_lw (P := l.prog) (w := w) (mg := mg) (base := base) (k := 0) F_law_value
  have GV := ok_lvs (P := l.prog) (w := w) (mg := mg) (base := base) (k := 0) F_law_values GLw F_law_value.kp b_law_value g_law_value m_list
  have GLr := ok_lr46 (P := l.prog) (w := w) (mg := mg) (base := base) (k := 0) F_law_long_row GD F_law_digit.kp b_law_digit g_law_digit GE F_law_deed.kp b_law_deed g_law_deed GCr F_law_carrying.kp b_law_carrying g_law_carrying GR F_law_row.kp b_law_row g_law_row m_tuple m_range
  have GOt := ok_ot (P := l.prog) (w := w) (mg := mg) (base := base) (k := 0) F_law_otherwise GD F_law_digit.kp b_law_digit g_law_digit m_tuple
  have GWr := ok_wr (P := l.prog) (w := w) (mg := mg) (base := base) (k := 0) F_law_walk_right GLf F_law_first.kp b_law_first g_law_first GAb F_law_bits.kp b_law_bits g_law_bits GLs F_law_step.kp b_law_step g_law_step m_len m_enumerate
  have GMo := ok_mo (P := l.prog) (w := w) (mg := mg) (base := base) (k := 0) F_law_met_in_order m_len m_enumerate m_int
  have GKn := ok_kn (P := l.prog) (w := w) (mg := mg) (base := base) (k := 0) F_law_kinds m_max m_tuple m_len m_enumerate
  exact law_run F_law b_law GT F_law_tape.kp b_law_tape g_law_tape GD F_law_digit.kp b_law_digit g_law_digit GLr F_law_long_row.kp b_law_long_row g_law_long_row GLm F_least_machine.kp b_least_machine g_least_machine GWr F_law_walk_right.kp b_law_walk_right g_law_walk_right GMo F_law_met_in_order.kp b_law_met_in_order g_law_met_in_order GKn F_law_kinds.kp b_law_kinds g_law_kinds GOt F_law_otherwise.kp b_law_otherwise g_law_otherwise GTb F_told_by.kp b_told_by g_told_by GV F_law_values.kp b_law_values g_law_values m_range m_len m_max m_min m_list hlen hbits e0 hS
end
end KK
open PySem PySem.W PyProof.Rows
set_option maxHeartbeats 0 in
theorem PySem.Challenge.cw_anywide_k46_whole_machines_of_long_rows_holds : PySem.Challenge.rw_anywide_k46_whole_machines_of_long_rows.Holds := by
  w_on; o_law; k_head; (case hw => w_witness2)
  k_fill
  refine AW.walkG (l := PySem.Challenge.rw_anywide_k46_whole_machines_of_long_rows) (n := 63) rfl (by decide) rfl (fun w h Y => PySem.W.kIn_of Y) ?F
  case F =>
    intro w mg fa h KX G hmg
    refine' KK.all_mk KX G hmg ?a0 ?l0 ?c0 ?k0 ?a1 ?l1 ?c1 ?k1 ?a2 ?l2 ?c2 ?k2 ?a3 ?l3 ?c3 ?k3 ?a4 ?l4 ?c4 ?k4 ?a5 ?l5 ?c5 ?k5 ?a6 ?l6 ?c6 ?k6 ?a7 ?l7 ?c7 ?k7 ?a8 ?l8 ?c8 ?k8 ?a9 ?l9 ?c9 ?k9 ?a10 ?l10 ?c10 ?k10 ?a11 ?l11 ?c11 ?k11 ?a12 ?l12 ?c12 ?k12 ?a13 ?l13 ?c13 ?k13 ?a14 ?l14 ?c14 ?k14 ?a15 ?l15 ?c15 ?k15 ?a16 ?l16 ?c16 ?k16 ?a17 ?l17 ?c17 ?k17 ?a18 ?l18 ?c18 ?k18 ?a19 ?l19 ?c19 ?k19 ?a20 ?l20 ?c20 ?k20 ?a21 ?l21 ?c21 ?k21 ?a22 ?l22 ?c22 ?k22 ?a23 ?l23 ?c23 ?k23 ?a24 ?l24 ?c24 ?k24 ?a25 ?l25 ?c25 ?k25 ?a26 ?l26 ?c26 ?k26 ?a27 ?l27 ?c27 ?k27 ?a28 ?l28 ?c28 ?k28 ?a29 ?l29 ?c29 ?k29 ?a30 ?l30 ?c30 ?k30 ?a31 ?l31 ?c31 ?k31 ?oa_Walk ?ma_Walk___init__ ?mi_Walk___init__ ?ml_Walk___init__ ?mc_Walk___init__ ?mk_Walk___init__ ?ma_Walk_meet ?mi_Walk_meet ?ml_Walk_meet ?mc_Walk_meet ?mk_Walk_meet ?pg_Walk ?hd_Walk ?po_Walk ?sa_Walk ?mk_Walk ?kc_Walk ?na_Walk_met ?na_Walk_numbers ?na_Walk_ways ?z_abs ?z_enumerate ?z_int ?z_len ?z_list ?z_max ?z_min ?z_range ?z_sorted ?z_tuple ?z_zip
    (case a0 => k_is)
    (case l0 => k_is)
    (case c0 => k_is)
    (case k0 => k_is)
    (case a1 => k_is)
    (case l1 => k_is)
    (case c1 => k_is)
    (case k1 => k_is)
    (case a2 => k_is)
    (case l2 => k_is)
    (case c2 => k_is)
    (case k2 => k_is)
    (case a3 => k_is)
    (case l3 => k_is)
    (case c3 => k_is)
    (case k3 => k_is)
    (case a4 => k_is)
    (case l4 => k_is)
    (case c4 => k_is)
    (case k4 => k_is)
    (case a5 => k_is)
    (case l5 => k_is)
    (case c5 => k_is)
    (case k5 => k_is)
    (case a6 => k_is)
    (case l6 => k_is)
    (case c6 => k_is)
    (case k6 => k_is)
    (case a7 => k_is)
    (case l7 => k_is)
    (case c7 => k_is)
    (case k7 => k_is)
    (case a8 => k_is)
    (case l8 => k_is)
    (case c8 => k_is)
    (case k8 => k_is)
    (case a9 => k_is)
    (case l9 => k_is)
    (case c9 => k_is)
    (case k9 => k_is)
    (case a10 => k_is)
    (case l10 => k_is)
    (case c10 => k_is)
    (case k10 => k_is)
    (case a11 => k_is)
    (case l11 => k_is)
    (case c11 => k_is)
    (case k11 => k_is)
    (case a12 => k_is)
    (case l12 => k_is)
    (case c12 => k_is)
    (case k12 => k_is)
    (case a13 => k_is)
    (case l13 => k_is)
    (case c13 => k_is)
    (case k13 => k_is)
    (case a14 => k_is)
    (case l14 => k_is)
    (case c14 => k_is)
    (case k14 => k_is)
    (case a15 => k_is)
    (case l15 => k_is)
    (case c15 => k_is)
    (case k15 => k_is)
    (case a16 => k_is)
    (case l16 => k_is)
    (case c16 => k_is)
    (case k16 => k_is)
    (case a17 => k_is)
    (case l17 => k_is)
    (case c17 => k_is)
    (case k17 => k_is)
    (case a18 => k_is)
    (case l18 => k_is)
    (case c18 => k_is)
    (case k18 => k_is)
    (case a19 => k_is)
    (case l19 => k_is)
    (case c19 => k_is)
    (case k19 => k_is)
    (case a20 => k_is)
    (case l20 => k_is)
    (case c20 => k_is)
    (case k20 => k_is)
    (case a21 => k_is)
    (case l21 => k_is)
    (case c21 => k_is)
    (case k21 => k_is)
    (case a22 => k_is)
    (case l22 => k_is)
    (case c22 => k_is)
    (case k22 => k_is)
    (case a23 => k_is)
    (case l23 => k_is)
    (case c23 => k_is)
    (case k23 => k_is)
    (case a24 => k_is)
    (case l24 => k_is)
    (case c24 => k_is)
    (case k24 => k_is)
    (case a25 => k_is)
    (case l25 => k_is)
    (case c25 => k_is)
    (case k25 => k_is)
    (case a26 => k_is)
    (case l26 => k_is)
    (case c26 => k_is)
    (case k26 => k_is)
    (case a27 => k_is)
    (case l27 => k_is)
    (case c27 => k_is)
    (case k27 => k_is)
    (case a28 => k_is)
    (case l28 => k_is)
    (case c28 => k_is)
    (case k28 => k_is)
    (case a29 => k_is)
    (case l29 => k_is)
    (case c29 => k_is)
    (case k29 => k_is)
    (case a30 => k_is)
    (case l30 => k_is)
    (case c30 => k_is)
    (case k30 => k_is)
    (case a31 => k_is)
    (case l31 => k_is)
    (case c31 => k_is)
    (case k31 => k_is)
    (case oa_Walk => k_is)
    (case ma_Walk___init__ => k_is)
    (case mi_Walk___init__ => k_is)
    (case ml_Walk___init__ => k_is)
    (case mc_Walk___init__ => k_is)
    (case mk_Walk___init__ => k_is)
    (case ma_Walk_meet => k_is)
    (case mi_Walk_meet => k_is)
    (case ml_Walk_meet => k_is)
    (case mc_Walk_meet => k_is)
    (case mk_Walk_meet => k_is)
    (case pg_Walk => k_is)
    (case hd_Walk => k_is)
    (case po_Walk => k_is)
    (case sa_Walk => k_is)
    (case mk_Walk => k_is)
    (case kc_Walk => k_is)
    (case na_Walk_met => k_is)
    (case na_Walk_numbers => k_is)
    (case na_Walk_ways => k_is)
    (case z_abs => k_is)
    (case z_enumerate => k_is)
    (case z_int => k_is)
    (case z_len => k_is)
    (case z_list => k_is)
    (case z_max => k_is)
    (case z_min => k_is)
    (case z_range => k_is)
    (case z_sorted => k_is)
    (case z_tuple => k_is)
    (case z_zip => k_is)
