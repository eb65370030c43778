import PyProof.Rows.All
import Wide.All
import OpenK.AllK
import Wide.FinOn
import KE.GoesEnum
import HandS.Base
import HandS.Call
import HandS.List
import HandS.Comp
import HandS.Ends
import HandS.Dict
import HandS.Iter
import HandS.EndBits
import HandS.Words
import HandS.WordsList
import HandS.WordsDict
import HandS.Text
import HandS.Wide
import HandS.WideBits
import HandS.Conv
import HandS.TupLe
import HandS.IsInst
import HandS.ExcIs
import HandS.ExcValue
import HandS.TupSets
import HandS.Zip
import HandS.Walk
import HandS.TupAny
import HandS.Deep
import PyProof.ReprRoads
import PyProof.ReprBulk
import KE.GoesZip
import KE.GoesMore
import KE.GoesEnum
import HandS.DictTup
import KE.KSortTupG
import HandS.TupLen
import HandS.NoneIn
import HandS.Records
import HandS.Flow
import HandS.More
import KE.KDictWalk
import KE.KDictDisplayH
import PyProof.WalkInts
import PyProof.DictTable
import KE.KeyNested
import KE.KDictKeyed
import PyProof.DictMoreH
import HandS.ListItems
import KE.KTurns
import HandS.Star
import PyProof.StrOps2
import HandS.TryOnly
import HandS.WordsExc
import HandS.Style
import HandS.RaiseMore
import HandS.FStr
import HandS.ExcOwn
import HandS.ExcCtx
import HandS.SetFor
import PySem.Challenge.RW_anywide_k51_one_bit_far_up
set_option Elab.async false
set_option linter.all false
set_option maxRecDepth 100000
namespace AW
open PySem PySem.Spec PyProof.Rows L2
theorem fn_at {P : Program} {w : World} {K : PySem.W.Frag} {mg : Str → Option Value} {base : Heap} {k : Nat} {f : Addr} {x qual : Str} {st : Stmt} {fd : FuncData} {N ps : List Str}
    (F : Fun K x qual st f fd) (S : FnScope N ps (defScope st)) {A : Around} {outer : List Env} {s : Shared} {H : Hp} {args : Args} {us : List Value} {vs : List V} {Q : VK} {E : XK}
    (hr : Room (k + 1) A) (e0 : Env0 P w K mg base A outer s H) (hb : BindsTo s fd args (ps.zip us)) (r : Vals vs us) (hl : vs.length = ps.length)
    (hbody : ∀ cdv : Value, ∃ t, PSs (cxOf CX0 P w K mg base N qual (defScope st) f cdv A outer s H E).nox (defBody st) t ∧ t { nx := fun _ H' => Q .non H', rt := Q } (start N vs) H) :
    codeAny (model P w) A (.call (.ref f) args) (CR CX0 outer P w H s Q E) s := by
  obtain ⟨oc, od, kV, doc, pm, an, cdv, ct, osl, rfl, lk, hcd⟩ := F.ex
  have keep0 : ∀ b o, base.get? b = some o → s.heap.get? b = some o := fun b o e => (e0.bs b o e).1
  have KX := e0.mod.kin.keeps keep0
  refine codeAny_call_function (Room.depth hr) (KX _ _ lk) rfl S.co S.gen rfl (PySem.W.codeRec_of KX hcd) (hb _ _ _ _ ?_)
  have kinds : ∀ y ∈ ps.zip us, (defScope st).names.lookup y.1 = some .local ∨ ((defScope st).names.lookup y.1 = some .cell ∧ ((cellsFrom (s.heap.objs.size + 1) (defScope st).names []).lookup y.1).isSome = true) := by
    intro y hy
    obtain ⟨n, v⟩ := y
    exact (S.par n (List.of_mem_zip hy).1).elim Or.inl fun q => Or.inr ⟨q, PySem.W.cellsFrom_some _ _ _ (.inl q)⟩
  refine wpAny_newFunctionEnv_cells S.kind kinds ?_
  rintro env rfl s1 ic
  obtain ⟨t, ht, hq⟩ := hbody cdv
  refine ⟨(e0.mod.nolimit.keeps keep0).keeps ic.toInCall.keep, codeAny_func (wpAny_mono (ht.nox.run [] s1 (start N vs) H _ (inv_start S hr.hd e0 hl r ic) hq) ?_ (fun _ _ z => z))⟩
  intro fl s' hs
  cases fl with
  | ret u =>
    obtain ⟨v, σ', H', J, rv, q⟩ := hs
    exact ⟨v, H', J.os, J.bare, J.base, J.hok, rv, q⟩
  | next =>
    obtain ⟨σ', H', J, q⟩ := hs
    exact ⟨V.non, H', J.os, J.bare, J.base, J.hok, rfl, q⟩
  | brk => exact hs.elim fun _ z => z.elim fun _ z => z.2.elim
  | cont => exact hs.elim fun _ z => z.elim fun _ z => z.2.elim
theorem env_at {P : Program} {w : World} {K : PySem.W.Frag} {mg mb : Str → Option Value} {a : Addr} {s1 : Shared} {vs : List Value} {H : Hp}
    (KX : K.In s1.heap) (hns : s1.heap.Ns mainGlobals mg) (hb : s1.heap.Ns builtinsNs mb) (hbb : ∀ x : Str, x ≠ "__name__" → mb x = bootBuiltins x) (hlim : s1.heap.NoLimit) (hg : s1.gens = #[])
    (ha : s1.heap.get? a = some { cls := .type "list", data := .seq vs.toArray }) (one : ∀ b u, H b = some u → b = a) (out : ∀ o, K.lookup a = some o → H a = none) (ok : HOk P w H s1.heap) :
    Env0 P w K mg (hidT s1.heap H) callerA [] s1 H := by
  have dicts : ∀ {b : Addr} {m : Str → Option Value}, s1.heap.Ns b m → (hidT s1.heap H).Ns b m := by
    rintro b m ⟨o, es, ep, e, d, r⟩
    refine ⟨o, es, ep, hidT_get e ?_, d, r⟩
    match q : H b with
    | none => rfl
    | some u =>
      obtain rfl := one b u q
      have e2 := Option.some.inj (e.symm.trans ha)
      rw [e2] at d
      cases d
  have kin : K.In (hidT s1.heap H) := by
    intro b o e
    refine hidT_get (KX b o e) ?_
    match q : H b with
    | none => rfl
    | some u =>
      obtain rfl := one b u q
      exact q.symm.trans (out o e)
  obtain ⟨mc, l1, l2⟩ := hlim
  exact ⟨rfl, ⟨kin, dicts hns, ⟨mb, dicts hb, hbb⟩, ⟨mc, dicts l1, l2⟩⟩, fun b o e => of_hidT e, Nat.le_of_eq (hidT_size _ _), trivial, (fun b z => nomatch z), ok, .of_eq hg⟩
theorem law_end {P : Program} {w : World} {K : PySem.W.Frag} {mg mb : Str → Option Value} {fa a : Addr} {s1 : Shared} {vs : List Value} {ns : List Int}
    (KX : K.In s1.heap) (hns : s1.heap.Ns mainGlobals mg) (hb : s1.heap.Ns builtinsNs mb) (hbb : ∀ x : Str, x ≠ "__name__" → mb x = bootBuiltins x) (hlim : s1.heap.NoLimit) (hg : s1.gens = #[])
    (ha : s1.heap.get? a = some { cls := .type "list", data := .seq vs.toArray }) (hi : IntsAre vs ns) (hl : ns.length ≤ sizeLine)
    (run : ∀ (base : Heap) (H : Hp), Env0 P w K mg base callerA [] s1 H → SqL K H a (ns.map V.int) →
      codeAny (model P w) callerA (.call (.ref fa) ⟨[.ref a], []⟩) (CR CX0 [] P w H s1 (fun v _ => v = .bl true) E0) s1) :
    codeAny (model P w) callerA (.call (.ref fa) ⟨[.ref a], []⟩) (fun r s' => r = .ok (.ret (.bool true)) ∧ OldK s1.heap s'.heap ∧ s'.os = s1.os ∧ AllBare s'.gens) s1 := by
  have rv := vals_ints hi
  have fin : ∀ H : Hp, HOk P w H s1.heap → (∀ b u, H b = some u → ∃ o xs, u = .frz o (.lst xs)) → ∀ r s', CR CX0 [] P w H s1 (fun v _ => v = .bl true) E0 r s' →
      r = .ok (.ret (.bool true)) ∧ OldK s1.heap s'.heap ∧ s'.os = s1.os ∧ AllBare s'.gens := by
    intro H ok hf r s' h
    match r, h with
    | .ok (.ret u), ⟨v, H', os, bare, un, ok2, rel, q⟩ =>
      obtain rfl : v = .bl true := q
      obtain rfl : u = Value.bool true := rel
      refine ⟨rfl, OldK.of_keep ?_, os, bare⟩
      intro b o e
      match qb : H b with
      | none => exact un.keep b o e qb (fun z => nomatch z) (fun z => nomatch z)
      | some ho =>
        obtain ⟨o2, xs, rfl⟩ := hf b ho qb
        have k1 := (ok b _ qb).1
        have k2 := (ok2 b _ (un.frzs b o2 _ qb)).1
        rw [e] at k1
        cases k1
        exact k2
  match hk : K.lookup a with
  | some o =>
    have e := (KX a o hk).symm.trans ha
    obtain rfl := Option.some.inj e
    have ok : HOk P w (fun _ => none) s1.heap := fun b u z => nomatch z
    refine codeAny_mono (run _ (fun _ => none) (env_at KX hns hb hbb hlim hg ha (fun b u z => nomatch z) (fun _ _ => rfl) ok) ?_) (fin _ ok fun b u z => nomatch z)
    exact .inr ⟨_, vs.toArray, _, hk, rfl, rfl, rfl, by rw [List.size_toArray, hi.length]; exact hl, by simpa using rv⟩
  | none =>
    let o : Obj := { cls := .type "list", data := .seq vs.toArray }
    have at_ : ∀ b u, (if b = a then some (HO.frz o (.lst (ns.map V.int))) else none) = some u → b = a ∧ u = HO.frz o (.lst (ns.map V.int)) := by
      intro b u z
      by_cases hb : b = a
      · rw [if_pos hb] at z
        exact ⟨hb, (Option.some.inj z).symm⟩
      · rw [if_neg hb] at z
        cases z
    have ok : HOk P w (fun b => if b = a then some (HO.frz o (.lst (ns.map V.int))) else none) s1.heap := by
      intro b u z
      obtain ⟨rfl, rfl⟩ := at_ b u z
      exact ⟨ha, by rw [List.length_map]; exact hl, vs, _, rv, ha⟩
    refine codeAny_mono (run _ _ (env_at KX hns hb hbb hlim hg ha (fun b u z => (at_ b u z).1) (fun o' e => absurd (hk.symm.trans e) (fun z => nomatch z)) ok) ?_) (fin _ ok fun b u z => ⟨_, _, (at_ b u z).2⟩)
    exact .inl (.inr ⟨o, if_pos rfl⟩)
theorem walkG {l : PySem.W.OpenLaw} {n : Nat} {q : Program} {loose : List Str} {XP : (Str → Option Value) → Heap → Prop} {YP : World → Heap → Prop} {d : DefRec} {K : Params → PySem.W.Frag}
    (hn : l.most = some n) (hn2 : n ≤ sizeLine) (hdf : d.params.defaults = []) (hY : ∀ (w : World) (h : Heap), YP w h → (K w.params).In h)
    (F : ∀ (w : World) (mg : Str → Option Value) (fa : Addr) (h : Heap), (K w.params).In h → h.Ns mainGlobals mg → mg d.name = some (.ref fa) →
      ∀ (s : Shared) (a : Addr) (ns : List Int) (base : Heap) (H : Hp), ns.length ≤ n → (∀ z ∈ ns, Builtin.Int.intBits z ≤ 1048576) → Env0 l.prog w (K w.params) mg base callerA [] s H → SqL (K w.params) H a (ns.map V.int) →
        codeAny (model l.prog w) callerA (.call (.ref fa) ⟨[.ref a], []⟩) (CR CX0 [] l.prog w H s (fun v _ => v = .bl true) E0) s) :
    PySem.W.WalkO q loose XP YP l.row.toRowW d [] (fun f vs => PySem.call f vs) := by
  apply Att.attach_callB hn hdf
  intro w s0 s1 mg mb fa o pm cd doc a vs ns G Y ho hd hcd hmg hobj hints hlen hbits hg
  have KX := hY w _ Y
  exact law_end KX G.T.g G.T.b G.T.builtins G.T.nolimit hg hobj hints (Nat.le_trans hlen hn2) fun base H e0 hS => F w mg fa _ KX G.T.g hmg s1 a ns base H hlen hbits e0 hS
section
variable {X : Cx}
/-- what a value reads, whatever the state -/
def Rz (X : Cx) (H : Hp) (v : V) (d : PyData) : Prop := ∀ pins σ s u, Inv X pins σ H s → RelV v u → ∃ as, Reads s.heap u d as ∧ sysModules ∉ as
theorem Rz.int (H : Hp) (i : Int) : Rz X H (.int i) (.int i) := by
  rintro pins σ s u I ⟨t, rfl⟩
  exact ⟨_, Reads.int i t, (fun z => nomatch z)⟩
theorem Rz.str (H : Hp) (x : Str) : Rz X H (.str x) (.str x) := by
  rintro pins σ s u I ⟨t, rfl⟩
  exact ⟨_, Reads.str x t, (fun z => nomatch z)⟩
theorem rz_all {H : Hp} : ∀ {vs : List V} {ds : List PyData}, Paired (Rz X H) vs ds → ∀ {pins σ s us}, Inv X pins σ H s → Vals vs us → ∃ as, ReadsAll s.heap us ds as ∧ sysModules ∉ as
  | _, _, .nil, _, _, _, _, _, .nil => ⟨_, ReadsAll.nil, (fun z => nomatch z)⟩
  | _, _, .cons h t, _, _, _, _, I, .cons r rs => by
    obtain ⟨as, a1, a2⟩ := h _ _ _ _ I r
    obtain ⟨bs, b1, b2⟩ := rz_all t I rs
    exact ⟨_, ReadsAll.cons a1 b1, fun z => (List.mem_append.mp z).elim a2 b2⟩
theorem Rz.tup {H : Hp} {a : Addr} {xs : List V} {ds : List PyData} (h : SqT X.K H a xs) (hs : Paired (Rz X H) xs ds) : Rz X H (.ref a) (.tuple ds) := by
  intro pins σ s u I r
  obtain rfl : u = Value.ref a := r
  obtain ⟨its, rv, ⟨o, ho, hc, n, hd⟩, _⟩ := I.tuple h
  obtain ⟨as, h1, h2⟩ := rz_all hs I rv
  exact ⟨_, Reads.tuple ho hc hd h1, h2⟩
end
end AW
namespace AW
open PySem PySem.Spec PyProof.Rows L2
section
variable {X : Cx}
def CPowW (i j : Int) : Prop := 0 ≤ j ∧ (Builtin.Int.intBits i : Int) * j ≤ 2 ^ 27
theorem op_powW : OpR X (binaryOp .Pow) (rI CPowW fun i j => .int (i ^ j.toNat)) := opI fun _ _ _ _ _ _ _ hc q => pow_int hc.1 hc.2 q
end
theorem bits_lt {z : Int} {n : Nat} (h : Builtin.Int.intBits z ≤ n) : z.natAbs < 2 ^ n := by
  unfold Builtin.Int.intBits at h
  by_cases e : z = 0
  · subst e
    exact Nat.pos_of_ne_zero (by simp)
  · rw [if_neg (by simpa using e)] at h
    have : z.natAbs ≠ 0 := by omega
    exact (Nat.log2_lt this).mp (by omega)
theorem seed_ok {z c : Int} (h0 : 0 ≤ z) (h1 : z ≤ 2147483629) (h2 : Builtin.Int.intBits c ≤ 1048576) : CPowW (z * 50021 + c) 3 := by
  refine ⟨by decide, ?_⟩
  have hc := bits_lt h2
  have h3 : (z * 50021 + c).natAbs < 2 ^ 1048577 := by
    have a : (z * 50021 + c).natAbs ≤ (z * 50021).natAbs + c.natAbs := Int.natAbs_add_le _ _
    have b : (z * 50021).natAbs ≤ 2 ^ 48 := by omega
    have d : (2 : Nat) ^ 48 ≤ 2 ^ 1048576 := Nat.pow_le_pow_right (by decide) (by decide)
    have e : (2 : Nat) ^ 1048577 = 2 ^ 1048576 + 2 ^ 1048576 := by rw [Nat.pow_succ]; omega
    omega
  have h4 := PyProof.Rows.intBits_le h3
  have e : (2 : Int) ^ 27 = 134217728 := by decide
  rw [e]
  omega
def tMid (t u : TS) : TS := fun D σ H => ∃ M : L2.St → Hp → Prop, t { D with nx := M } σ H ∧ ∀ σ2 H2, M σ2 H2 → u D σ2 H2
theorem pss_mid {X : Cx} {st : Stmt} {r : List Stmt} {t u : TS} (a : PS X st t) (b : PSs X r u) : PSs X (st :: r) (tMid t u) := by
  constructor
  rintro pins s σ H D I ⟨M, h1, h2⟩
  apply wpAny_execs_cons
  refine thn (a.run pins s σ H _ I h1) ?_
  intro fl s2 z
  match fl, z with
  | .next, ⟨σ2, H2, I2, m⟩ => exact b.run pins s2 σ2 H2 D I2 (h2 σ2 H2 m)
  | .ret _, z => exact z
  | .brk, z => exact z
  | .cont, z => exact z
def WL (H : Hp) (a c : Addr) : Prop := a ≠ c ∧ ∃ (cs : List Int) (r s : Int), H a = some (.lst [.ref c, .int r, .int s]) ∧ H c = some (.lst (cs.map V.int))
/-- all but the well stands as it stood -/
def Kp (a c : Addr) (H H' : Hp) : Prop := ∀ b o, b ≠ a → b ≠ c → H b = some o → H' b = some o
theorem Kp.refl (a c : Addr) (H : Hp) : Kp a c H H := fun _ _ _ _ h => h
theorem Kp.trans {a c : Addr} {H H1 H2 : Hp} (h : Kp a c H H1) (k : Kp a c H1 H2) : Kp a c H H2 := fun b o n1 n2 e => k b o n1 n2 (h b o n1 n2 e)
theorem Kp.tup {a c : Addr} {H H' : Hp} (w : WL H a c) (k : Kp a c H H') {b : Addr} {xs : List V} (h : H b = some (.tup xs)) : H' b = some (.tup xs) := by
  obtain ⟨_, cs, r, s, e1, e2⟩ := w
  exact k b _ (ne_of h e1 (fun z => nomatch z)) (ne_of h e2 (fun z => nomatch z)) h
theorem Kp.same {a c : Addr} {H H1 H2 : Hp} (ha : H a = none) (hc : H c = none) (s : Same H H1) (k : Kp a c H1 H2) : Same H H2 := fun b o e => k b o (ne_of_none e ha) (ne_of_none e hc) (s b o e)
theorem same_new {H : Hp} {p : Addr} {o : HO} (h : H p = none) : Same H (upd H p o) := fun b x e => by
  rw [upd_ne (ne_of_none e h)]
  exact e
theorem WL.same {H H' : Hp} {a c : Addr} (w : WL H a c) (k : Same H H') : WL H' a c := by
  obtain ⟨n, cs, r, s, e1, e2⟩ := w
  exact ⟨n, cs, r, s, k _ _ e1, k _ _ e2⟩
theorem WL.ne_new {H : Hp} {a c p : Addr} (w : WL H a c) (h : H p = none) : p ≠ a ∧ p ≠ c := by
  obtain ⟨n, cs, r, s, e1, e2⟩ := w
  exact ⟨(ne_of_none e1 h).symm, (ne_of_none e2 h).symm⟩
theorem Same.kp {a c : Addr} {H H' : Hp} (s : Same H H') : Kp a c H H' := fun b o _ _ e => s b o e
theorem dp_ints {K : PySem.W.Frag} {H : Hp} : ∀ cs : List Int, DpAll K H (cs.map V.int) (cs.map PyData.int)
  | [] => .nil
  | c :: cs => .cons (.int c) (dp_ints cs)
theorem lay_ints : ∀ cs : List Int, PyData.canLayAll0 (cs.map PyData.int) = true ∧ PyData.depthAll (cs.map PyData.int) = 0
  | [] => ⟨by simp only [List.map_nil, PyData.canLayAll0], by simp only [List.map_nil, PyData.depthAll]⟩
  | c :: cs => by
    obtain ⟨h1, h2⟩ := lay_ints cs
    exact ⟨by simp only [List.map_cons, PyData.canLayAll0, PyData.canLay0, h1, Bool.and_self], by simp only [List.map_cons, PyData.depthAll, PyData.depth, h2, Nat.max_self]⟩
theorem shaped_ints (cs : List Int) : SeqAt.shaped (.list (cs.map PyData.int)) = true := by
  obtain ⟨h1, h2⟩ := lay_ints cs
  simp only [SeqAt.shaped, PyData.canLay0, PyData.depth, h1, h2, Bool.true_and]
  decide
theorem seq0 (n : Nat) : seqIndex? 0 (n + 1) = some 0 := by
  unfold seqIndex?
  simp
def fwL : List (Str × Int) := [("none", 0), ("one", 0), ("all", 0), ("not", 1), ("neg", 1), ("twice", 1), ("and", 2), ("or", 2), ("xor", 2), ("add", 2), ("sub", 2)]
/-- a deed: its word and its numbers -/
abbrev Deed := Str × List Int
def dV (d : Deed) : List V := .str d.1 :: d.2.map V.int
theorem dv0 (d : Deed) : atI (dV d) 0 = some (.str d.1) := atI_nat (j := 0) rfl
theorem dvN {d : Deed} {k : Nat} {i : Int} (h : d.2[k]? = some i) : atI (dV d) ((k + 1 : Nat) : Int) = some (.int i) := atI_nat (by show (d.2.map V.int)[k]? = _; rw [List.getElem?_map, h]; rfl)
structure DeedOk (m : Int) (d : Deed) : Prop where
  word : (d.1, (d.2.length : Int)) ∈ fwL
  ahead : ∀ i ∈ d.2, 0 ≤ i ∧ i < m
theorem awSnoc {α β : Type} {F : α → β → Prop} {x : α} {y : β} (h : F x y) : ∀ {l : List α} {l2 : List β}, Paired F l l2 → Paired F (l ++ [x]) (l2 ++ [y])
  | _, _, .nil => .cons h .nil
  | _, _, .cons r t => .cons r (awSnoc h t)
theorem awMap {α β : Type} {F G : α → β → Prop} (f : ∀ a b, F a b → G a b) : ∀ {l : List α} {l2 : List β}, Paired F l l2 → Paired G l l2
  | _, _, .nil => .nil
  | _, _, .cons r t => .cons (f _ _ r) (awMap f t)
theorem awLen {α β : Type} {F : α → β → Prop} : ∀ {l : List α} {l2 : List β}, Paired F l l2 → l.length = l2.length
  | _, _, .nil => rfl
  | _, _, .cons _ t => congrArg (· + 1) (awLen t)
theorem awGet {α β : Type} {F : α → β → Prop} : ∀ {l : List α} {l2 : List β} {i : Nat} {x : α}, Paired F l l2 → l[i]? = some x → ∃ y, l2[i]? = some y ∧ F x y
  | _, _, _, _, .nil, e => by simp at e
  | _, _, 0, _, .cons r _, e => by
    simp only [List.getElem?_cons_zero, Option.some.injEq] at e
    subst e
    exact ⟨_, rfl, r⟩
  | _, _, i + 1, x, .cons _ t, e => by
    simp only [List.getElem?_cons_succ] at e ⊢
    exact awGet t e
theorem awGet2 {α β : Type} {F : α → β → Prop} {l : List α} {l2 : List β} {i : Nat} {y : β} (h : Paired F l l2) (e : l2[i]? = some y) : ∃ x, l[i]? = some x ∧ F x y := by
  have hi : i < l.length := by
    rw [awLen h]
    exact (List.getElem?_eq_some_iff.mp e).1
  obtain ⟨y2, e2, f⟩ := awGet h (List.getElem?_eq_getElem hi)
  rw [e] at e2
  obtain rfl := Option.some.inj e2
  exact ⟨_, List.getElem?_eq_getElem hi, f⟩
/-- deeds that stand in the heap as tuples -/
abbrev DsAt (H : Hp) : List Addr → List Deed → Prop := Paired fun r d => H r = some (.tup (dV d))
def RowAt (H : Hp) (R : Addr) (m : Int) (ds : List Deed) (o : Int) : Prop := ∃ D rs, H R = some (.tup [.int m, .ref D, .int o]) ∧ H D = some (.tup (rs.map V.ref)) ∧ DsAt H rs ds
structure DsOk (m : Int) (ds : List Deed) : Prop where
  each : ∀ (k : Nat) d, ds[k]? = some d → DeedOk (m + k) d
structure RowOk (m : Int) (ds : List Deed) (o : Int) : Prop where
  m1 : 1 ≤ m
  m3 : m ≤ 3
  len : ds.length ≤ 8
  deeds : DsOk m ds
  o0 : 0 ≤ o
  o1 : o < m + ds.length
/-- all tuples stand -/
def TupsStay (H H' : Hp) : Prop := ∀ b xs, H b = some (.tup xs) → H' b = some (.tup xs)
theorem Same.tups {H H' : Hp} (s : Same H H') : TupsStay H H' := fun b xs e => s b _ e
theorem Kp.tups {a c : Addr} {H H' : Hp} (k : Kp a c H H') (w : WL H a c) : TupsStay H H' := fun b xs e => k.tup w e
theorem TupsStay.trans {H H1 H2 : Hp} (a : TupsStay H H1) (b : TupsStay H1 H2) : TupsStay H H2 := fun c xs e => b c xs (a c xs e)
theorem tups_put {H : Hp} {l : Addr} {xs : List V} {o : HO} (h : H l = some (.lst xs)) : TupsStay H (upd H l o) := fun b ys e => by
  rw [upd_ne (ne_of e h (fun z => nomatch z))]
  exact e
theorem TupsStay.ds {H H' : Hp} (t : TupsStay H H') {rs : List Addr} {ds : List Deed} (h : DsAt H rs ds) : DsAt H' rs ds := awMap (fun r d e => t r _ e) h
theorem TupsStay.row {H H' : Hp} (t : TupsStay H H') {R : Addr} {m o : Int} {ds : List Deed} (h : RowAt H R m ds o) : RowAt H' R m ds o := by
  obtain ⟨D, rs, e1, e2, e3⟩ := h
  exact ⟨D, rs, t _ _ e1, t _ _ e2, t.ds e3⟩
theorem dsOk_snoc {m : Int} {ds : List Deed} {d : Deed} (h : DsOk m ds) (k : DeedOk (m + ds.length) d) : DsOk m (ds ++ [d]) := by
  constructor
  intro i d' e
  by_cases hi : i < ds.length
  · rw [List.getElem?_append_left hi] at e
    exact h.each i d' e
  · rw [List.getElem?_append_right (by omega)] at e
    obtain ⟨h1, h2⟩ := List.getElem?_eq_some_iff.mp e
    have h3 : i = ds.length := by simp only [List.length_cons, List.length_nil] at h1; omega
    subst h3
    simp at h2
    subst h2
    exact k
structure Nice (b k : Nat) (d : PyData) : Prop where
  sh : d.showable = true
  lv : d.leavesShort 21 = true
  bk : d.bulk ≤ b
  dp : d.depth ≤ k
theorem Nice.mono {b b2 k k2 : Nat} {d : PyData} (h : Nice b k d) (hb : b ≤ b2) (hk : k ≤ k2) : Nice b2 k2 d := ⟨h.sh, h.lv, Nat.le_trans h.bk hb, Nat.le_trans h.dp hk⟩
theorem nice_int {i : Int} (h : i.natAbs < 10 ^ 20) : Nice 0 0 (.int i) := by
  refine ⟨?_, ?_, ?_, ?_⟩
  · simp only [PyData.showable, decide_eq_true_eq]
    have : i.natAbs < 2 ^ 70 := Nat.lt_trans h (by decide)
    by_cases e : i.natAbs = 0
    · rw [e]; decide
    · have := (Nat.log2_lt e).mpr this
      omega
  · simp only [PyData.leavesShort, decide_eq_true_eq]
    have e := int_text_length_le10 (k := 20) (by decide) h
    simp only [PyData.shown]
    rw [PySem.ofString_length]
    exact e
  · simp only [PyData.bulk, Nat.le_refl]
  · simp only [PyData.depth, Nat.le_refl]
def deedD (d : Deed) : PyData := .tuple (.str d.1 :: d.2.map PyData.int)
def rowD (m : Int) (ds : List Deed) (o : Int) : PyData := .tuple [.int m, .tuple (ds.map deedD), .int o]
theorem strEq {x y : Str} (h : decide (V.str x = V.str y) = true) : x = y := V.str.inj (of_decide_eq_true h)
theorem strNe {x y : Str} (h : ¬ decide (V.str x = V.str y) = true) : ¬ x = y := fun e => h (decide_eq_true (congrArg V.str e))
def argAt (d : Deed) (told : List Int) (k : Nat) : Int := told.getD (d.2.getD k 0).toNat 0
def dvalue (x : Str) (A B size : Int) : Int :=
  if x = "none" then 0 else if x = "one" then 1 else if x = "all" then size - 1 else if x = "not" then size - 1 - A else if x = "neg" then -A else if x = "twice" then A + A
  else if x = "and" then Builtin.bitAnd A B else if x = "or" then Builtin.bitOr A B else if x = "xor" then Builtin.bitXor A B else if x = "add" then A + B else A - B
def dval (size : Int) (d : Deed) (told : List Int) : Int := dvalue d.1 (argAt d told 0) (argAt d told 1) size % size
def vals (size : Int) : List Deed → List Int → List Int
  | [], told => told
  | d :: ds, told => vals size ds (told ++ [dval size d told])
theorem vals_append (size : Int) : ∀ (l1 l2 : List Deed) (t : List Int), vals size (l1 ++ l2) t = vals size l2 (vals size l1 t)
  | [], _, _ => rfl
  | d :: l1, l2, t => vals_append size l1 l2 (t ++ [dval size d t])
theorem vals_len {size : Int} : ∀ (ds : List Deed) (t : List Int), (vals size ds t).length = t.length + ds.length
  | [], _ => rfl
  | d :: ds, t => by
    show (vals size ds (t ++ [dval size d t])).length = _
    rw [vals_len ds, List.length_append, List.length_cons, List.length_cons, List.length_nil]
    omega
theorem vals_next {size : Int} {ds : List Deed} {i : Nat} {d : Deed} {t : List Int} (h : ds[i]? = some d) : vals size (ds.take (i + 1)) t = vals size (ds.take i) t ++ [dval size d (vals size (ds.take i) t)] := by
  rw [List.take_add_one, h, vals_append]
  rfl
theorem atI_ints {l : List Int} {o : Int} (h0 : 0 ≤ o) (h1 : o < l.length) : atI (l.map V.int) o = some (.int (l.getD o.toNat 0)) := by
  obtain ⟨k, rfl⟩ := Int.eq_ofNat_of_zero_le h0
  have hk : k < l.length := by omega
  apply atI_nat
  rw [List.getElem?_map, List.getElem?_eq_getElem hk, Int.toNat_natCast, List.getD_eq_getElem?_getD, List.getElem?_eq_getElem hk]
  rfl
theorem fw_one : ∀ p ∈ fwL, ¬ p.1 = "none" → ¬ p.1 = "one" → ¬ p.1 = "all" → 1 ≤ p.2 := by decide +kernel
theorem fw_two' : ∀ p ∈ fwL, (decide (p.1 ∈ (["none", "one", "all", "not", "neg", "twice"] : List Str)) || decide (2 ≤ p.2)) = true := by decide +kernel
theorem fw_two (p : Str × Int) (h : p ∈ fwL) (n1 : ¬ p.1 = "none") (n2 : ¬ p.1 = "one") (n3 : ¬ p.1 = "all") (n4 : ¬ p.1 = "not") (n5 : ¬ p.1 = "neg") (n6 : ¬ p.1 = "twice") : 2 ≤ p.2 := by
  have e := fw_two' p h
  rw [Bool.or_eq_true] at e
  rcases e with e | e
  · have e2 := of_decide_eq_true e
    simp only [List.mem_cons, List.not_mem_nil, or_false] at e2
    rcases e2 with e2 | e2 | e2 | e2 | e2 | e2
    · exact absurd e2 n1
    · exact absurd e2 n2
    · exact absurd e2 n3
    · exact absurd e2 n4
    · exact absurd e2 n5
    · exact absurd e2 n6
  · exact of_decide_eq_true e
theorem arg_of {d : Deed} {told : List Int} (h : DeedOk told.length d) {k : Nat} (hk : k < d.2.length) : ∃ i, d.2[k]? = some i ∧ 0 ≤ i ∧ atI (told.map V.int) i = some (.int (argAt d told k)) := by
  have hg := List.getElem?_eq_getElem hk
  obtain ⟨i0, i1⟩ := h.ahead _ (List.getElem_mem hk)
  refine ⟨d.2[k], hg, i0, ?_⟩
  rw [atI_ints i0 i1]
  unfold argAt
  rw [List.getD_eq_getElem?_getD (l := d.2), hg]
  rfl
theorem arg1 {d : Deed} {told : List Int} (h : DeedOk told.length d) (n1 : ¬ d.1 = "none") (n2 : ¬ d.1 = "one") (n3 : ¬ d.1 = "all") : ∃ i, d.2[0]? = some i ∧ 0 ≤ i ∧ atI (told.map V.int) i = some (.int (argAt d told 0)) :=
  arg_of h (by have := fw_one _ h.word n1 n2 n3; show 0 < d.2.length; have e : (1 : Int) ≤ (d.2.length : Int) := this; omega)
theorem arg2 {d : Deed} {told : List Int} (h : DeedOk told.length d) (n1 : ¬ d.1 = "none") (n2 : ¬ d.1 = "one") (n3 : ¬ d.1 = "all") (n4 : ¬ d.1 = "not") (n5 : ¬ d.1 = "neg") (n6 : ¬ d.1 = "twice") :
    ∃ i, d.2[1]? = some i ∧ 0 ≤ i ∧ atI (told.map V.int) i = some (.int (argAt d told 1)) :=
  arg_of h (by have := fw_two _ h.word n1 n2 n3 n4 n5 n6; show 1 < d.2.length; have e : (2 : Int) ≤ (d.2.length : Int) := this; omega)
theorem pw_cast (n : Nat) : (2 : Int) ^ n = ((2 ^ n : Nat) : Int) := (PySem.W.kbt_cast n).symm
theorem pw_le {n k : Nat} (h : n ≤ k) : (2 : Int) ^ n ≤ 2 ^ k := by
  rw [pw_cast, pw_cast]
  exact Int.ofNat_le.mpr (Nat.pow_le_pow_right (by decide) h)
theorem pw_pos (n : Nat) : (0 : Int) < 2 ^ n := Int.pow_pos (by decide)
theorem arg_nn {told : List Int} (h : ∀ x ∈ told, 0 ≤ x) (d : Deed) (j : Nat) : 0 ≤ argAt d told j := by
  unfold argAt
  rw [List.getD_eq_getElem?_getD]
  cases e : told[(d.2.getD j 0).toNat]? with
  | none => exact Int.le_refl 0
  | some y => exact h y (List.mem_of_getElem? e)
theorem vals_range {size : Int} (hs : 0 < size) : ∀ (ds : List Deed) (told : List Int), (∀ x ∈ told, 0 ≤ x ∧ x < size) → ∀ x ∈ vals size ds told, 0 ≤ x ∧ x < size
  | [], _, h => h
  | d :: ds, told, h => by
    refine vals_range hs ds (told ++ [dval size d told]) fun x hx => ?_
    rcases List.mem_append.mp hx with hx | hx
    · exact h x hx
    · rw [List.mem_singleton.mp hx]
      exact ⟨Int.emod_nonneg _ (by omega), Int.emod_lt_of_pos _ hs⟩
theorem dget_at {H : Hp} {a : Addr} {kvs : List (Key × V)} {k : Key} {v : V} (e : H a = some (.dK kvs)) (h : valV kvs k = some v) : DGet H a (kV k) (some v) := h ▸ DGet.k e
theorem intEq {x y : Int} (h : decide (V.int x = V.int y) = true) : x = y := V.int.inj (of_decide_eq_true h)
theorem intNe {x y : Int} (h : ¬ decide (V.int x = V.int y) = true) : ¬ x = y := fun e => h (decide_eq_true (congrArg V.int e))
section
variable {X : Cx}
def rCatZ : R2 := fun x y H Q => ∃ a b xs ys, x = .ref a ∧ y = .ref b ∧ H a = some (.tup xs) ∧ H b = some (.tup ys) ∧ xs.length + ys.length ≤ sizeLine ∧ ∀ p H2, Same H H2 → H2 p = some (.tup (xs ++ ys)) → Q (.ref p) H2
theorem op_catZ : OpR X (binaryOp .Add) rCatZ := by
  intro pins s σ H x y v u Q I rx ry h
  obtain ⟨a, b, xs, ys, rfl, rfl, ha, hb, hz, q⟩ := h
  refine op_catA pins s σ H _ _ v u Q I rx ry ⟨a, b, xs, ys, rfl, rfl, SqT.of ha, SqT.of hb, hz, fun e => ?_, fun _ e => ?_, fun _ _ p hp => ?_⟩
  · subst e
    exact q b H (Same.refl H) hb
  · subst e
    exact q a H (Same.refl H) (by rw [List.append_nil]; exact ha)
  · exact q p _ (same_new hp) upd_same
end
theorem awAppend {α β : Type} {F : α → β → Prop} : ∀ {l k : List α} {l2 k2 : List β}, Paired F l l2 → Paired F k k2 → Paired F (l ++ k) (l2 ++ k2)
  | _, _, _, _, .nil, h => h
  | _, _, _, _, .cons r t, h => .cons r (awAppend t h)
/-- all but one stands as it stood -/
def But (f : Addr) (H H2 : Hp) : Prop := ∀ b o, b ≠ f → H b = some o → H2 b = some o
theorem But.trans {f : Addr} {H H1 H2 : Hp} (a : But f H H1) (b : But f H1 H2) : But f H H2 := fun c o n e => b c o n (a c o n e)
theorem But.same {f : Addr} {H H2 : Hp} (s : Same H H2) : But f H H2 := fun b o _ e => s b o e
theorem But.tups {f : Addr} {H H2 : Hp} {xs : List V} (h : But f H H2) (e : H f = some (.lst xs)) : TupsStay H H2 := fun b ys z => h b _ (ne_of z e (fun q => nomatch q)) z
def TP (H : Hp) (a : Addr) : Prop := ∃ x y : Int, H a = some (.lst [.int x, .int y])
theorem TP.same {H H2 : Hp} {a : Addr} (h : TP H a) (s : Same H H2) : TP H2 a := by
  obtain ⟨x, y, e⟩ := h
  exact ⟨x, y, s _ _ e⟩
theorem TP.ne_new {H : Hp} {a p : Addr} (h : TP H a) (e : H p = none) : p ≠ a := by
  obtain ⟨x, y, e1⟩ := h
  exact (ne_of_none e1 e).symm
theorem But.refl (a : Addr) (H : Hp) : But a H H := fun _ _ _ e => e
theorem inS (x : Str) : ∀ l : List Str, inV (.str x) (l.map V.str) = decide (x ∈ l)
  | [] => rfl
  | y :: l => by
    have ih := inS x l
    show (eqV (.str y) (.str x) || inV (.str x) (l.map V.str)) = _
    rw [ih]
    by_cases h : x = y
    · subst h
      simp [eqV]
    · have h2 : ¬ y = x := fun e => h e.symm
      simp [eqV, h, h2]
def twC : List Str := ["add", "sub", "twice", "neg", "one"]
def fcD (d : Deed) : Int := if d.1 ∈ (["neg", "one"] : List Str) then 1 else 0
def dbit (x : Str) (a b c : Int) : Int :=
  if x = "none" then 0 else if x = "all" then 1 else if x = "one" then c else if x = "twice" then c else if x = "not" then 1 - a else if x = "neg" then Builtin.bitXor (1 - a) c
  else if x = "and" then Builtin.bitAnd a b else if x = "or" then Builtin.bitOr a b else if x = "xor" then Builtin.bitXor a b else Builtin.bitXor (Builtin.bitXor a b) c
def dcar (x : Str) (a b c : Int) : Int :=
  if x = "neg" then Builtin.bitAnd (1 - a) c else if x = "twice" then a else if x = "add" then (a + b + c) / 2 else if x = "sub" then (1 - a + b + c) / 2 else 0
def dbitAt (d : Deed) (c : Int) (told : List Int) : Int := dbit d.1 (argAt d told 0) (argAt d told 1) c
def dcarAt (d : Deed) (c : Int) (told : List Int) : Int := dcar d.1 (argAt d told 0) (argAt d told 1) c
def bts : List Deed → List Int → List Int → List Int
  | d :: ds, c :: cs, told => bts ds cs (told ++ [dbitAt d c told])
  | _, _, told => told
def nxt (ds : List Deed) (cs told : List Int) : List Int := List.zipWith (fun d c => dcarAt d c told) ds cs
abbrev Bit (x : Int) : Prop := x = 0 ∨ x = 1
theorem bit0 : Bit 0 := .inl rfl
theorem bit1 : Bit 1 := .inr rfl
theorem dbit_bit {x : Str} {a b c : Int} (ha : Bit a) (hb : Bit b) (hc : Bit c) : Bit (dbit x a b c) := by
  have n1 : Bit (1 - a) := by rcases ha with rfl | rfl <;> simp [Bit]
  have hx : ∀ {p q : Int}, Bit p → Bit q → Bit (Builtin.bitXor p q) := fun hp hq => by
    rcases hp with rfl | rfl <;> rcases hq with rfl | rfl <;> decide
  have hand : ∀ {p q : Int}, Bit p → Bit q → Bit (Builtin.bitAnd p q) := fun hp hq => by
    rcases hp with rfl | rfl <;> rcases hq with rfl | rfl <;> decide
  have hor : ∀ {p q : Int}, Bit p → Bit q → Bit (Builtin.bitOr p q) := fun hp hq => by
    rcases hp with rfl | rfl <;> rcases hq with rfl | rfl <;> decide
  unfold dbit
  split; · exact bit0
  split; · exact bit1
  split; · exact hc
  split; · exact hc
  split; · exact n1
  split; · exact hx n1 hc
  split; · exact hand ha hb
  split; · exact hor ha hb
  split; · exact hx ha hb
  exact hx (hx ha hb) hc
theorem dcar_bit {x : Str} {a b c : Int} (ha : Bit a) (hb : Bit b) (hc : Bit c) : Bit (dcar x a b c) := by
  unfold dcar
  split
  · rcases ha with rfl | rfl <;> rcases hc with rfl | rfl <;> decide
  split; · exact ha
  split
  · rcases ha with rfl | rfl <;> rcases hb with rfl | rfl <;> rcases hc with rfl | rfl <;> decide
  split
  · rcases ha with rfl | rfl <;> rcases hb with rfl | rfl <;> rcases hc with rfl | rfl <;> decide
  exact bit0
theorem argAt_bit {told : List Int} (h : ∀ x ∈ told, Bit x) (d : Deed) (j : Nat) : Bit (argAt d told j) := by
  unfold argAt
  rw [List.getD_eq_getElem?_getD]
  cases e : told[(d.2.getD j 0).toNat]? with
  | none => exact bit0
  | some y => exact h y (List.mem_of_getElem? e)
theorem bts_next : ∀ {ds : List Deed} {cs t : List Int} {i : Nat} {d : Deed} {c : Int}, ds[i]? = some d → cs[i]? = some c → bts (ds.take (i + 1)) (cs.take (i + 1)) t = bts (ds.take i) (cs.take i) t ++ [dbitAt d c (bts (ds.take i) (cs.take i) t)]
  | [], _, _, _, _, _, h, _ => by simp at h
  | _ :: _, [], _, _, _, _, _, h => by simp at h
  | e :: ds, g :: cs, t, 0, d, c, h, k => by
    simp only [List.getElem?_cons_zero, Option.some.injEq] at h k
    subst h k
    rfl
  | e :: ds, g :: cs, t, i + 1, d, c, h, k => by
    simp only [List.getElem?_cons_succ] at h k
    exact bts_next (t := t ++ [dbitAt e g t]) h k
theorem bts_len : ∀ {ds : List Deed} {cs t : List Int}, ds.length = cs.length → (bts ds cs t).length = t.length + ds.length
  | [], [], _, _ => rfl
  | [], _ :: _, _, h => by simp at h
  | _ :: _, [], _, h => by simp at h
  | d :: ds, c :: cs, t, h => by
    show (bts ds cs (t ++ [dbitAt d c t])).length = _
    rw [bts_len (by simpa using h), List.length_append, List.length_cons, List.length_cons, List.length_nil]
    omega
theorem bts_bits : ∀ {ds : List Deed} {cs t : List Int}, (∀ x ∈ t, Bit x) → (∀ x ∈ cs, Bit x) → ∀ x ∈ bts ds cs t, Bit x
  | [], cs, t, h, _ => by
    unfold bts
    exact h
  | _ :: _, [], t, h, _ => by
    unfold bts
    exact h
  | d :: ds, c :: cs, t, h, k => by
    refine bts_bits (ds := ds) (cs := cs) (t := t ++ [dbitAt d c t]) (fun x hx => ?_) fun x hx => k x (List.mem_cons_of_mem _ hx)
    rcases List.mem_append.mp hx with hx | hx
    · exact h x hx
    · rw [List.mem_singleton.mp hx]
      exact dbit_bit (argAt_bit h d 0) (argAt_bit h d 1) (k c List.mem_cons_self)
theorem nxt_len {ds : List Deed} {cs t : List Int} (h : ds.length = cs.length) : (nxt ds cs t).length = ds.length := by
  unfold nxt
  rw [List.length_zipWith]
  omega
theorem nxt_bits {ds : List Deed} {cs t : List Int} (h : ∀ x ∈ t, Bit x) (k : ∀ x ∈ cs, Bit x) : ∀ x ∈ nxt ds cs t, Bit x := by
  intro x hx
  unfold nxt at hx
  obtain ⟨i, hi⟩ := List.mem_iff_getElem?.mp hx
  rw [List.getElem?_zipWith] at hi
  cases e1 : ds[i]? with
  | none => rw [e1] at hi; simp at hi
  | some d =>
    cases e2 : cs[i]? with
    | none => rw [e1, e2] at hi; simp at hi
    | some c =>
      rw [e1, e2] at hi
      have := Option.some.inj hi
      rw [← this]
      exact dcar_bit (argAt_bit h d 0) (argAt_bit h d 1) (k c (List.mem_of_getElem? e2))
theorem nxt_next {ds : List Deed} {cs t : List Int} {i : Nat} {d : Deed} {c : Int} (h : ds[i]? = some d) (k : cs[i]? = some c) : (nxt ds cs t).take (i + 1) = (nxt ds cs t).take i ++ [dcarAt d c t] := by
  rw [List.take_add_one]
  unfold nxt
  rw [List.getElem?_zipWith, h, k]
  rfl
section
variable {K : PySem.W.Frag} {a b : Addr} {xs ys : List V}
theorem walk_zipT (hn : xs.length = ys.length) : Walk (RZ.ItzT K a b) xs.length (fun H => SqT K H a xs ∧ SqT K H b ys) (YPair (fun i => xs[i]?) (fun i => ys[i]?)) where
  goes := fun i H hi q => ⟨xs, ys, xs[i], ys[i]'(by omega), q.1, q.2, List.getElem?_eq_getElem hi, List.getElem?_eq_getElem (by omega)⟩
  stops := fun H q => ⟨xs, ys, q.1, q.2, .inl (Nat.le_refl _)⟩
  yields := fun i H v H2 hi q y => by
    obtain ⟨T, x, z, h1, h2, h3, h4, h5⟩ := y
    exact ⟨T, x, z, h1, h2, h3, h4 xs q.1, h5 ys q.2⟩
end
section
variable {X : Cx} {K : PySem.W.Frag}
theorem kit_ref {D C : Addr} {b : Bool} (h1 : PySem.W.isClsIn K C = true) (h2 : PySem.W.typeIn K (.ref C) = some (.type "type")) (h3 : PySem.W.subIn K (.ref D) (.ref C) = some b) (h4 : PySem.W.subIn K (.ref C) (.ref C) = some true) : PySem.W.kitOne K (.ref D) (.ref C) = some b := by
  unfold PySem.W.kitOne
  by_cases e : D = C
  · subst e
    rw [h3] at h4
    rw [if_pos (by simp), h4]
  · rw [if_neg (by simpa using e)]
    have e1 : ((PySem.W.clsIn K C).isSome && PySem.W.typeIn K (.ref C) == some (.type "type")) = true := by
      have h1' : (PySem.W.clsIn K C).isSome = true := h1
      rw [h1', h2]
      rfl
    show (if ((PySem.W.clsIn K C).isSome && PySem.W.typeIn K (.ref C) == some (.type "type")) = true then PySem.W.subIn K (.ref D) (.ref C) else none) = some b
    rw [if_pos e1]
    exact h3
theorem kit_ve {D : Addr} {b : Bool} (h : PySem.W.subIn K (.ref D) (.type "ValueError") = some b) : PySem.W.kitOne K (.ref D) (.type "ValueError") = some b := by
  have e1 : PySem.W.kitMeta "ValueError" = true := by decide +kernel
  show (if PySem.W.kitMeta "ValueError" = true then PySem.W.subIn K (.ref D) (.type "ValueError") else none) = some b
  rw [if_pos e1]
  exact h
end
end AW
namespace KK
open PySem PySem.Spec PyProof.Rows L2 AW
def topS (i : Nat) : Stmt := PySem.Challenge.pw_anywide_k51_one_bit_far_up.main.body.getD i (.Pass ⟨0, 0, 0, 0⟩)
abbrev s_all_bits : Stmt := topS 1
abbrev N_all_bits : List Str := ["many", "choices", "place", "bits", "bit"]
theorem sc_all_bits : FnScope N_all_bits ["many"] (defScope s_all_bits) := ⟨rfl, rfl, rfl, by decide +kernel, rfl, by decide +kernel, by decide +kernel⟩
abbrev s_first_carry : Stmt := topS 2
abbrev N_first_carry : List Str := ["row", "deed"]
theorem sc_first_carry : FnScope N_first_carry ["row"] (defScope s_first_carry) := ⟨rfl, rfl, rfl, by decide +kernel, rfl, by decide +kernel, by decide +kernel⟩
abbrev s_deed_bit : Stmt := topS 3
abbrev N_deed_bit : List Str := ["deed", "held", "told", "word", "first", "second"]
theorem sc_deed_bit : FnScope N_deed_bit ["deed", "held", "told"] (defScope s_deed_bit) := ⟨rfl, rfl, rfl, by decide +kernel, rfl, by decide +kernel, by decide +kernel⟩
abbrev s_bits_of : Stmt := topS 4
abbrev N_bits_of : List Str := ["row", "carry", "bits", "told", "deed", "held"]
theorem sc_bits_of : FnScope N_bits_of ["row", "carry", "bits"] (defScope s_bits_of) := ⟨rfl, rfl, rfl, by decide +kernel, rfl, by decide +kernel, by decide +kernel⟩
abbrev s_two_or_more : Stmt := topS 5
abbrev N_two_or_more : List Str := ["one", "other", "third"]
theorem sc_two_or_more : FnScope N_two_or_more ["one", "other", "third"] (defScope s_two_or_more) := ⟨rfl, rfl, rfl, by decide +kernel, rfl, by decide +kernel, by decide +kernel⟩
abbrev s_deed_carry : Stmt := topS 6
abbrev N_deed_carry : List Str := ["deed", "held", "told", "word"]
theorem sc_deed_carry : FnScope N_deed_carry ["deed", "held", "told"] (defScope s_deed_carry) := ⟨rfl, rfl, rfl, by decide +kernel, rfl, by decide +kernel, by decide +kernel⟩
abbrev s_carry_behind : Stmt := topS 7
abbrev N_carry_behind : List Str := ["row", "carry", "told", "deed", "held"]
theorem sc_carry_behind : FnScope N_carry_behind ["row", "carry", "told"] (defScope s_carry_behind) := ⟨rfl, rfl, rfl, by decide +kernel, rfl, by decide +kernel, by decide +kernel⟩
abbrev s_steps : Stmt := topS 8
abbrev N_steps : List Str := ["row", "carry", "told", "bits", "all_told"]
theorem sc_steps : FnScope N_steps ["row", "carry"] (defScope s_steps) := ⟨rfl, rfl, rfl, by decide +kernel, rfl, by decide +kernel, by decide +kernel⟩
abbrev s_kept_steps : Stmt := topS 9
abbrev N_kept_steps : List Str := ["kept", "row", "carry"]
theorem sc_kept_steps : FnScope N_kept_steps ["kept", "row", "carry"] (defScope s_kept_steps) := ⟨rfl, rfl, rfl, by decide +kernel, rfl, by decide +kernel, by decide +kernel⟩
abbrev s_both_steps : Stmt := topS 16
abbrev N_both_steps : List Str := ["ones", "others", "bit", "after", "others_bit", "others_after"]
theorem sc_both_steps : FnScope N_both_steps ["ones", "others"] (defScope s_both_steps) := ⟨rfl, rfl, rfl, by decide +kernel, rfl, by decide +kernel, by decide +kernel⟩
abbrev s_words_of : Stmt := topS 17
abbrev N_words_of : List Str := ["many", "columns", "words", "place", "bits", "at", "bit"]
theorem sc_words_of : FnScope N_words_of ["many", "columns"] (defScope s_words_of) := ⟨rfl, rfl, rfl, by decide +kernel, rfl, by decide +kernel, by decide +kernel⟩
abbrev s_check_pair : Stmt := topS 19
abbrev N_check_pair : List Str := ["row", "other"]
theorem sc_check_pair : FnScope N_check_pair ["row", "other"] (defScope s_check_pair) := ⟨rfl, rfl, rfl, by decide +kernel, rfl, by decide +kernel, by decide +kernel⟩
abbrev s_alike : Stmt := topS 20
abbrev N_alike : List Str := ["row", "other", "choices", "ones", "others", "walk", "at", "carry", "others_carry", "both", "bits", "bit", "others_bit", "after", "columns"]
theorem sc_alike : FnScope N_alike ["row", "other"] (defScope s_alike) := ⟨rfl, rfl, rfl, by decide +kernel, rfl, by decide +kernel, by decide +kernel⟩
abbrev s_sign_behind : Stmt := topS 25
abbrev N_sign_behind : List Str := ["sign", "bit", "others_bit"]
theorem sc_sign_behind : FnScope N_sign_behind ["sign", "bit", "others_bit"] (defScope s_sign_behind) := ⟨rfl, rfl, rfl, by decide +kernel, rfl, by decide +kernel, by decide +kernel⟩
abbrev s_triples_behind : Stmt := topS 26
abbrev N_triples_behind : List Str := ["sign", "both", "told", "bit", "others_bit", "after", "others_after"]
theorem sc_triples_behind : FnScope N_triples_behind ["sign", "both"] (defScope s_triples_behind) := ⟨rfl, rfl, rfl, by decide +kernel, rfl, by decide +kernel, by decide +kernel⟩
abbrev s_at_most : Stmt := topS 27
abbrev N_at_most : List Str := ["row", "other", "choices", "ones", "others", "walk", "at", "carry", "others_carry", "sign", "both", "bits", "after", "columns"]
theorem sc_at_most : FnScope N_at_most ["row", "other"] (defScope s_at_most) := ⟨rfl, rfl, rfl, by decide +kernel, rfl, by decide +kernel, by decide +kernel⟩
abbrev s_whole_machine : Stmt := topS 29
abbrev N_whole_machine : List Str := ["row", "choices", "walk", "machine", "at", "carry", "state", "bits", "bit", "after"]
theorem sc_whole_machine : FnScope N_whole_machine ["row"] (defScope s_whole_machine) := ⟨rfl, rfl, rfl, by decide +kernel, rfl, by decide +kernel, by decide +kernel⟩
abbrev s_numbered : Stmt := topS 30
abbrev N_numbered : List Str := ["looks", "numbers", "look"]
theorem sc_numbered : FnScope N_numbered ["looks"] (defScope s_numbered) := ⟨rfl, rfl, rfl, by decide +kernel, rfl, by decide +kernel, by decide +kernel⟩
abbrev s_kinds_of_states : Stmt := topS 31
abbrev N_kinds_of_states : List Str := ["machine", "kinds", "many", "behind", "bit", "after", "state"]
theorem sc_kinds_of_states : FnScope N_kinds_of_states ["machine"] (defScope s_kinds_of_states) := ⟨rfl, rfl, rfl, by decide +kernel, rfl, by decide +kernel, by decide +kernel⟩
abbrev s_least_machine : Stmt := topS 32
abbrev N_least_machine : List Str := ["row", "whole", "kinds", "least", "kind", "state", "bit", "after"]
theorem sc_least_machine : FnScope N_least_machine ["row"] (defScope s_least_machine) := ⟨rfl, rfl, rfl, by decide +kernel, rfl, by decide +kernel, by decide +kernel⟩
abbrev s_check_single : Stmt := topS 34
abbrev N_check_single : List Str := ["row"]
theorem sc_check_single : FnScope N_check_single ["row"] (defScope s_check_single) := ⟨rfl, rfl, rfl, by decide +kernel, rfl, by decide +kernel, by decide +kernel⟩
abbrev s_turned : Stmt := topS 35
abbrev N_turned : List Str := ["row", "walk", "at", "bit", "after", "others_bit", "others_after", "below", "one"]
theorem sc_turned : FnScope N_turned ["row"] (defScope s_turned) := ⟨rfl, rfl, rfl, by decide +kernel, rfl, by decide +kernel, by decide +kernel⟩
abbrev s_gone_up : Stmt := topS 36
abbrev N_gone_up : List Str := ["row", "kept", "least", "place", "wanted", "told", "carry", "low", "top", "bit", "after", "word"]
theorem sc_gone_up : FnScope N_gone_up ["row", "kept", "least", "place", "wanted"] (defScope s_gone_up) := ⟨rfl, rfl, rfl, by decide +kernel, rfl, by decide +kernel, by decide +kernel⟩
abbrev s_gone_back : Stmt := topS 37
abbrev N_gone_back : List Str := ["row", "width", "word", "kept", "least", "place"]
theorem sc_gone_back : FnScope N_gone_back ["row", "width", "word"] (defScope s_gone_back) := ⟨rfl, rfl, rfl, by decide +kernel, rfl, by decide +kernel, by decide +kernel⟩
abbrev s_law_well : Stmt := topS 39
abbrev N_law_well : List Str := ["script", "seed", "cell"]
theorem sc_law_well : FnScope N_law_well ["script"] (defScope s_law_well) := ⟨rfl, rfl, rfl, by decide +kernel, rfl, by decide +kernel, by decide +kernel⟩
abbrev s_law_draw : Stmt := topS 40
abbrev N_law_draw : List Str := ["well", "many", "cell", "found"]
theorem sc_law_draw : FnScope N_law_draw ["well", "many"] (defScope s_law_draw) := ⟨rfl, rfl, rfl, by decide +kernel, rfl, by decide +kernel, by decide +kernel⟩
abbrev s_law_top : Stmt := topS 41
abbrev N_law_top : List Str := ["width", "top", "k"]
theorem sc_law_top : FnScope N_law_top ["width"] (defScope s_law_top) := ⟨rfl, rfl, rfl, by decide +kernel, rfl, by decide +kernel, by decide +kernel⟩
abbrev s_law_bit_row : Stmt := topS 42
abbrev N_law_bit_row : List Str := ["many", "at", "k", "word", "deeds", "mask", "more", "found", "turn"]
theorem sc_law_bit_row : FnScope N_law_bit_row ["many", "at", "k", "word"] (defScope s_law_bit_row) := ⟨rfl, rfl, rfl, by decide +kernel, rfl, by decide +kernel, by decide +kernel⟩
abbrev s_law_worth : Stmt := topS 43
abbrev N_law_worth : List Str := ["word", "k", "width", "x", "bit", "top", "there"]
theorem sc_law_worth : FnScope N_law_worth ["word", "k", "width", "x"] (defScope s_law_worth) := ⟨rfl, rfl, rfl, by decide +kernel, rfl, by decide +kernel, by decide +kernel⟩
abbrev s_law_least_width : Stmt := topS 44
abbrev N_law_least_width : List Str := ["one", "other", "k", "greater", "width", "bit", "x", "here", "there"]
theorem sc_law_least_width : FnScope N_law_least_width ["one", "other", "k", "greater"] (defScope s_law_least_width) := ⟨rfl, rfl, rfl, by decide +kernel, rfl, by decide +kernel, by decide +kernel⟩
abbrev s_law_pair_right : Stmt := topS 45
abbrev N_law_pair_right : List Str := ["rows", "names", "k", "at", "found", "one", "words", "greater", "width", "here", "there", "name"]
theorem sc_law_pair_right : FnScope N_law_pair_right ["rows", "names", "k", "at"] (defScope s_law_pair_right) := ⟨rfl, rfl, rfl, by decide +kernel, rfl, by decide +kernel, by decide +kernel⟩
abbrev s_law_back : Stmt := topS 46
abbrev N_law_back : List Str := ["word", "k", "width", "y", "bit", "top", "some", "x"]
theorem sc_law_back : FnScope N_law_back ["word", "k", "width", "y"] (defScope s_law_back) := ⟨rfl, rfl, rfl, by decide +kernel, rfl, by decide +kernel, by decide +kernel⟩
abbrev s_law_single_right : Stmt := topS 47
abbrev N_law_single_right : List Str := ["well", "row", "word", "k", "found", "meets", "width", "y"]
theorem sc_law_single_right : FnScope N_law_single_right ["well", "row", "word", "k"] (defScope s_law_single_right) := ⟨rfl, rfl, rfl, by decide +kernel, rfl, by decide +kernel, by decide +kernel⟩
abbrev s_law : Stmt := topS 48
abbrev N_law : List Str := ["script", "well", "words", "names", "many", "at", "k", "name", "rows", "row", "states"]
theorem sc_law : FnScope N_law ["script"] (defScope s_law) := ⟨rfl, rfl, rfl, by decide +kernel, rfl, by decide +kernel, by decide +kernel⟩
abbrev c_Walk : Stmt := topS 15
section
variable {P : Program} {w : World} {K : PySem.W.Frag} {mg : Str → Option Value} {base : Heap}
section dts
theorem dt_raw {H : Hp} {h : Heap} {d : Addr} {kvs : List (List Key × V)} (ok : ObjOk P w H h d (.dT kvs)) :
    (d == sysModules) = false ∧ ∃ es ep, h.DictRaw d es ep ∧ es.size = kvs.length ∧ ∀ (i : Nat) (hi : i < es.size), ∃ k v q, kvs[i]? = some (k, v) ∧ es[i].key = .ref q ∧ H q = some (.tup (k.map kV)) ∧ RelV v es[i].val := by
  obtain ⟨_, hs, xs, pr, o, es, ep, ho, hx, hdt, he, _⟩ := ok
  have l1 : es.size = xs.length := size_of_entries he
  refine ⟨hs, es, ep, ⟨o, ho, hx, hdt⟩, l1.trans (awLen pr).symm, fun i hi => ?_⟩
  have hi2 : i < xs.length := by omega
  obtain ⟨⟨k, v⟩, h1, h2, h3, h4⟩ := awGet2 pr (List.getElem?_eq_getElem hi2)
  have e : es.toList[i]? = some (entryOfKey (tupleKind (mixKind P w)) xs[i]) := by
    rw [he, List.getElem?_map, List.getElem?_eq_getElem hi2]
    rfl
  have e2 : es[i] = entryOfKey (tupleKind (mixKind P w)) xs[i] := by
    rw [Array.getElem?_toList, Array.getElem?_eq_getElem hi] at e
    exact Option.some.inj e
  refine ⟨k, v, xs[i].2.1, h1, ?_, h3, ?_⟩
  · rw [e2]
    rfl
  · rw [e2]
    exact h4
/-- the pairs, each a new tuple with the key's own tuple -/
def ItT (d : Addr) (o : Obj) (kvs : List (List Key × V)) : It where
  go := fun i H => H d = some (.frz o (.dT kvs)) ∧ i < kvs.length
  yld := fun i H x H' => ∃ (T q : Addr) (k : List Key) (v : V), kvs[i]? = some (k, v) ∧ H q = some (.tup (k.map kV)) ∧ x = .ref T ∧ H T = none ∧ H' = upd H T (.tup [.ref q, v])
  stop := fun i H => H d = some (.frz o (.dT kvs)) ∧ kvs.length ≤ i
theorem turn_T {d : Addr} {o : Obj} {kvs : List (List Key × V)} {elts : List Expr} {kk : Nat} {tpos : Pos} (it : Addr) {ep : Nat} {es : Array DictEntry} (hod : o.data = .dict es ep) :
    Turn P w K (.Tuple elts kk tpos) (ItT d o kvs) [it] it (fun i h => ∃ x y, IsItemIter h it d i kvs.length ep x y) where
  mem := List.mem_singleton.mpr rfl
  obj := fun i h st b hb => by
    obtain rfl := List.mem_singleton.mp hb
    obtain ⟨x, y, e⟩ := st
    exact ⟨_, e, fun v z => nomatch z⟩
  keep := fun i h h' st k => by
    obtain ⟨x, y, e⟩ := st
    exact ⟨x, y, k it (List.mem_singleton.mpr rfl) _ e⟩
  item := by
    intro X hP hw hK hc i pins s σ H E I hf st hg
    subst hP hw hK
    obtain ⟨hd, hi⟩ := hg
    obtain ⟨hg1, okd⟩ := I.hok d _ hd
    obtain ⟨_, es', ep', raw, sz, ent⟩ := dt_raw okd
    have raw' := raw
    obtain ⟨o', ho', _, hdt'⟩ := raw'
    obtain rfl : o' = o := Option.some.inj (ho'.symm.trans hg1)
    obtain ⟨rfl, rfl⟩ := dict_ep hod hdt'
    obtain ⟨x, y, he⟩ := st
    have hi' : i < es'.size := by omega
    obtain ⟨k, v, q, hkv, hkey, hq, rv⟩ := ent i hi'
    rw [← sz] at he
    have below : it < s.heap.objs.size := Heap.lt_size he
    refine wpAny_pyNext_items_item_raw he raw hi' fun h' ho hT _ hk => ?_
    refine ⟨_, rfl, wpAny_letOwnedTupleGo_items (s := { s with heap := h' }) ho fun h2 he2 sb => ?_⟩
    have there : h2.get? s.heap.objs.size = some { cls := .type "tuple", data := .seq #[es'[i].key, es'[i].val] } := (sb.2 _ (Nat.ne_of_gt below)).trans hT
    have laid : ObjOk X.prog X.w (upd H s.heap.objs.size (.tup [.ref q, v])) h2 s.heap.objs.size (.tup [.ref q, v]) :=
      ⟨by show 2 ≤ sizeLine; decide, [es'[i].key, es'[i].val], .cons hkey (.cons rv .nil), ⟨_, there, rfl, _, rfl⟩⟩
    refine ⟨.ref s.heap.objs.size, _, I.turnedNew (t' := s.toks) (ch := [it]) (fun b ob hb e => ?_) hf (Nat.le_refl _) laid, rfl, ⟨_, q, k, v, hkv, hq, rfl, I.hok.fresh (Nat.le_refl _), rfl⟩, ⟨es'[i].key, es'[i].val, by rw [← sz]; exact he2⟩, fun b hb => ?_⟩
    · have nb : b ≠ it := fun z => hb (List.mem_singleton.mpr z)
      exact (sb.2 b nb).trans (hk b ob nb e)
    · obtain rfl := List.mem_singleton.mp hb
      rw [upd_ne (Nat.ne_of_lt below)]
      exact (hf b hb).1
  done := by
    intro X hP hw hK hc i pins s σ H E I hf st hg
    subst hP hw hK
    obtain ⟨hd, hi⟩ := hg
    obtain ⟨f0, f1, f2, f3, f4, f5⟩ := hf it (List.mem_singleton.mpr rfl)
    obtain ⟨hg1, okd⟩ := I.hok d _ hd
    obtain ⟨_, es', ep', raw, sz, _⟩ := dt_raw okd
    have raw' := raw
    obtain ⟨o', ho', _, hdt'⟩ := raw'
    obtain rfl : o' = o := Option.some.inj (ho'.symm.trans hg1)
    obtain ⟨rfl, rfl⟩ := dict_ep hod hdt'
    obtain ⟨x, y, he⟩ := st
    rw [← sz] at he
    refine wpAny_pyNext_items_end_raw (I.ok.hd hc) he raw (by omega) fun h' eb => ⟨rfl, ?_⟩
    exact I.turned (t' := s.toks) (fun b ob hb e => eb b ob hb e) f0 f1 f3 f4 f5
  self := fun A i s Q E st h => by
    obtain ⟨x, y, e⟩ := st
    exact wpAny_pyIter_itemiter e h
variable {X : Cx} {e : Expr} {td : TE} {apos cpos : Pos}
def iItT (td : TE) : TI := fun σ H R => td σ H fun x H1 => ∃ d o kvs, x = .ref d ∧ H1 d = some (.frz o (.dT kvs)) ∧ R (ItT d o kvs) H1
theorem pi_itT {elts : List Expr} {kk : Nat} {tpos : Pos} (he : PE X e td) (hb : attributeBase e "items" X.env (eval e X.env) = eval e X.env := by rfl) (hl : (apos.endLine == cpos.line) = true := by rfl) :
    PI X (.Tuple elts kk tpos) (.Call (.Attribute e "items" apos) [] [] cpos) (iItT td) := by
  constructor
  intro pins s σ H R I h
  refine wpAny_Call_method (T := "dict") (id := "dict.items") hb rfl hl F.plainAttrs_dict F.slot_dict_items F.type_dict_items (thn (he.run pins s σ H _ I h) ?_)
  rintro u s1 ⟨x, H1, I1, rx, d, o, kvs, rfl, hd, q⟩
  obtain rfl : u = Value.ref d := rx
  obtain ⟨hg1, okd⟩ := I1.hok d _ hd
  obtain ⟨hs, es, ep, raw, sz, _⟩ := dt_raw okd
  have raw' := raw
  obtain ⟨o', ho', hx', hdt'⟩ := raw'
  obtain rfl : o' = o := Option.some.inj (ho'.symm.trans hg1)
  have I2 : Inv X pins σ H1 { s1 with heap := s1.heap.push { cls := .type "dict_items", data := .fields #[.ref d] } } := I1.kept (t' := s1.toks) fun b ob z => Heap.get?_push_of_some _ z
  refine ⟨raw.typeIs, fun a z => ⟨o', by cases z; exact hg1, hx'.2.1⟩, ?_⟩
  refine method_meetsIn F.slot_dict_items F.entry_dict_items rfl (PySem.evalArgs_none ⟨rfl, raw.typeIs, F.args_dict_items_1 _, _, meets_dict_items_raw d hs, ⟨es, ep, raw⟩, ?_⟩)
  refine wpAny_pyIter_items_raw (d := d) ⟨_, Heap.get?_push_size _ rfl, rfl, rfl⟩ (raw.at fun ob z => Heap.get?_push_of_some _ z) (pi_one (tk := s1.toks) I2 _ (turn_T _ hdt') ⟨.none, .none, ?_⟩ q)
  rw [← sz]
  exact Heap.get?_push_size _ rfl
theorem walk_T {d : Addr} {o : Obj} {kvs : List (List Key × V)} : Walk (ItT d o kvs) kvs.length (fun H => H d = some (.frz o (.dT kvs)))
    (fun i H x H' => ∃ (T q : Addr) (k : List Key) (v : V), kvs[i]? = some (k, v) ∧ H q = some (.tup (k.map kV)) ∧ x = .ref T ∧ H T = none ∧ H' = upd H T (.tup [.ref q, v])) :=
  ⟨fun _ _ hi q => ⟨q, hi⟩, fun _ q => ⟨q, Nat.le_refl _⟩, fun _ _ _ _ _ _ y => y⟩
/-- d.values() -/
def valsO (p d : Addr) : HO := .ext fun h => h.IsValuesView p d
theorem valsO_ok {H : Hp} {h : Heap} {p d : Addr} (e : h.get? p = some { cls := .type "dict_values", data := .fields #[.ref d] }) : ObjOk P w H h p (valsO p d) := by
  refine ⟨⟨_, e, rfl, rfl⟩, ⟨_, e⟩, ?_⟩
  rintro h1 h2 ⟨o, ho, r⟩ k
  exact ⟨o, k o ho, r⟩
def rValsT : V → List V → Hp → VK → Prop := fun x xs H Q => ∃ (a : Addr) (kvs : List (List Key × V)), x = .ref a ∧ xs = [] ∧ H a = some (.dT kvs) ∧ ∀ p, H p = none → Q (.ref p) (upd H p (valsO p a))
theorem mt_valsT : MtR X "dict.values" rValsT := by
  intro pins s σ H x xs v us Q I rx rxs h
  obtain ⟨a, kvs, rfl, rfl, ha, q⟩ := h
  cases rx
  cases rxs
  obtain ⟨hs, es, ep, raw, _⟩ := dt_raw (I.hok a _ ha)
  refine call_meetsIn F.slot_dict_values raw.typeIs F.entry_dict_values (F.args_dict_values_1 _) (meets_dict_values_raw a hs) ⟨⟨es, ep, raw⟩, ?_⟩
  have I2 := I.laid (o := valsO s.heap.objs.size a) (t' := s.toks) (fun b u z => Heap.get?_push_of_some _ z) (Nat.le_refl _) (valsO_ok (H := upd H s.heap.objs.size (valsO s.heap.objs.size a)) (Heap.get?_push_size _ rfl))
  exact ⟨.ref _, _, I2, rfl, q _ (I.hok.fresh (Nat.le_refl _))⟩
theorem best_least {f : Nat → Int} : ∀ n, argBest (fun i j => decide (f i < f j)) n ≤ n ∧ ∀ j, j ≤ n → f (argBest (fun i j => decide (f i < f j)) n) ≤ f j
  | 0 => ⟨Nat.le_refl _, fun j hj => (Nat.le_zero.mp hj).symm ▸ Int.le_refl _⟩
  | n + 1 => by
    obtain ⟨h1, h2⟩ := best_least (f := f) n
    unfold argBest
    by_cases e : f (n + 1) < f (argBest (fun i j => decide (f i < f j)) n)
    · rw [if_pos (by simpa using e)]
      refine ⟨Nat.le_refl _, fun j hj => ?_⟩
      by_cases hj2 : j ≤ n
      · have := h2 j hj2
        omega
      · obtain rfl : j = n + 1 := by omega
        exact Int.le_refl _
    · rw [if_neg (by simpa using e)]
      refine ⟨by omega, fun j hj => ?_⟩
      by_cases hj2 : j ≤ n
      · exact h2 j hj2
      · obtain rfl : j = n + 1 := by omega
        omega
/-- min(d.values()), the values ints -/
def rMinV : List V → Hp → VK → Prop := fun vs H Q => ∃ (p a : Addr) (kvs : List (List Key × V)) (zs : List Int), vs = [.ref p] ∧ H p = some (valsO p a) ∧ H a = some (.dT kvs) ∧ kvs.map (·.2) = zs.map V.int ∧ zs ≠ [] ∧ ∀ z, z ∈ zs → (∀ y ∈ zs, z ≤ y) → Q (.int z) H
theorem call_minV (hc : X.calm = true) : CallR X (.builtin "min") rMinV := by
  intro pins s σ H vs us Q I r h
  obtain ⟨p, a, kvs, zs, rfl, hp, ha, hz, hne, q⟩ := h
  obtain ⟨u, rfl, ru⟩ := vals1 r
  obtain rfl : u = Value.ref p := ru
  obtain ⟨hs, es, ep, raw, sz, ent⟩ := dt_raw (I.hok a _ ha)
  have hv : s.heap.IsValuesView p a := (I.hok p _ hp).1
  have zl : zs.length = es.size := by
    have := congrArg List.length hz
    rw [List.length_map, List.length_map] at this
    omega
  have la : a < s.heap.objs.size := raw.elim fun o z => Heap.lt_size z.1
  refine call_min_walk (wpAny_pyIter_values_raw hv raw ?_)
  have rel : ∀ i v, (∃ hi : i < es.size, v = es[i].val) → ∃ t, v = .int (zs.getD i 0) t := by
    rintro i v ⟨hi, rfl⟩
    obtain ⟨k, v, _, hkv, _, _, rv⟩ := ent i hi
    have e : (kvs.map (·.2))[i]? = some v := by rw [List.getElem?_map, hkv]; rfl
    rw [hz, List.getElem?_map] at e
    cases e2 : zs[i]? with
    | none => rw [e2] at e; cases e
    | some z =>
      rw [e2] at e
      obtain rfl : V.int z = v := Option.some.inj e
      rw [List.getD_eq_getElem?_getD, e2]
      exact rv
  refine ⟨s.heap.objs.size, [s.heap.objs.size, a], [s.heap.objs.size], es.size, _, _, fun i j => decide (zs.getD i 0 < zs.getD j 0), rfl, Walks.rawValues (A := X.A.in1) (I.ok.hd hc) _ a (Nat.ne_of_lt la) es ep, ?_, ?_, ?_, CmpOf.ints_lt (fun i => zs.getD i 0) rel, ?_⟩
  · exact ⟨⟨_, Heap.get?_push_size _ rfl, rfl, rfl⟩, raw.at fun o z => Heap.get?_push_of_some _ z⟩
  · intro b hb
    show b < (s.heap.push _).objs.size
    rw [Heap.size_push]
    simp only [List.mem_cons, List.not_mem_nil, or_false] at hb
    rcases hb with rfl | rfl
    · exact Nat.lt_succ_self _
    · exact Nat.lt_succ_of_lt la
  · have := List.length_pos_iff.mpr hne
    omega
  · intro v h' tk hP hk
    obtain ⟨t, rfl⟩ := rel _ _ hP
    obtain ⟨b1, b2⟩ := best_least (f := fun i => zs.getD i 0) (es.size - 1)
    have pos := List.length_pos_iff.mpr hne
    generalize argBest (fun i j => decide (zs.getD i 0 < zs.getD j 0)) (es.size - 1) = m at b1 b2 hP
    have hm : m < zs.length := by omega
    have em : zs.getD m 0 = zs[m] := by rw [List.getD_eq_getElem?_getD, List.getElem?_eq_getElem hm]; rfl
    refine ⟨.int (zs.getD m 0), H, I.kept fun b o e => hk b o (fun z => ?_) (Heap.get?_push_of_some _ e), ⟨t, rfl⟩, q _ (by rw [em]; exact List.getElem_mem hm) fun y hy => ?_⟩
    · exact absurd (List.mem_singleton.mp z) (Nat.ne_of_lt (Heap.lt_size e))
    · obtain ⟨j, hj, rfl⟩ := List.mem_iff_getElem.mp hy
      have := b2 j (by omega)
      have ej : zs.getD j 0 = zs[j] := by rw [List.getD_eq_getElem?_getD, List.getElem?_eq_getElem hj]; rfl
      rw [ej] at this
      exact this
/-- whether a dict is not empty -/
theorem truth_H {κ : Type} [DecidableEq κ] {knd : HeapKind P w κ} {A : Around} {E : Value → Shared → Prop} {s : Shared} {d : Addr} {xs : List (κ × Addr × Value)} {Q : Bool → Shared → Prop} (hd : (d == sysModules) = false) (hm : s.heap.DictOfH knd d xs)
    (hf : (xs.length : Int) < 2 ^ 63) (h : Q (!xs.isEmpty) { s with toks := s.toks + 1 + 1 }) : wpAny (model P w) A (truthy (.ref d)) Q E s := by
  have e : ((xs.length : Int) != 0) = !xs.isEmpty := by cases xs <;> simp <;> omega
  have run : wpAny (model P w) A (runValue (.builtin "len" ⟨[.ref d], []⟩)) (fun r s' => r = .int xs.length (s.toks + 1) ∧ Q (!xs.isEmpty) s') E s := by
    apply wpAny_runValue
    apply codeAny_builtin entry_len
    rw [Around.under_plainId plain_len _]
    refine wpAny_mono (wpAny_len_body_dictH (Q := fun r s' => r = .int xs.length (s.toks + 1) ∧ Q (!xs.isEmpty) s') hd hm hf ⟨rfl, h⟩) ?_ (fun _ _ z => z)
    rintro fin s' ⟨r, rfl, z⟩
    exact z
  unfold truthy
  first
  | apply wpAny_bind; refine wpAny_callSpecial?_none (name := Str.ofString "__bool__") hm.typeIs noBool_dict ?_
  | apply wpAny_bind; apply wpAny_pure; apply wpAny_bind; refine wpAny_callSpecial?_none (name := Str.ofString "__bool__") hm.typeIs noBool_dict ?_
  first
  | apply wpAny_bind; refine wpAny_specialOf (name := Str.ofString "__len__") hm.typeIs F.slot_dict_len.lookup ?_
  | apply wpAny_bind; apply wpAny_pure; apply wpAny_bind; refine wpAny_specialOf (name := Str.ofString "__len__") hm.typeIs F.slot_dict_len.lookup ?_
  first
  | apply wpAny_bind
    refine wpAny_mono run ?_ (fun _ _ z => z)
    rintro r s' ⟨rfl, z⟩
    exact wpAny_pure (e ▸ z)
  | apply wpAny_bind
    apply wpAny_pure
    apply wpAny_bind
    refine wpAny_mono run ?_ (fun _ _ z => z)
    rintro r s' ⟨rfl, z⟩
    exact wpAny_pure (e ▸ z)
theorem tru_dT : TruR X (fun x H Q => ∃ a kvs, x = .ref a ∧ H a = some (.dT kvs) ∧ Q (!kvs.isEmpty) H) := by
  intro pins s σ H x v Q I rx h
  obtain ⟨a, kvs, rfl, ha, q⟩ := h
  obtain rfl : v = Value.ref a := rx
  obtain ⟨z, hd, ys, rel, dd⟩ := dt_of I.hok ha
  have hl : kvs.length = ys.length := awLen rel
  refine truth_H hd dd (by rw [← hl]; rw [sizeLine_eq] at z; omega) ⟨H, I.tok _, ?_⟩
  have e : (!ys.isEmpty) = !kvs.isEmpty := by cases rel <;> rfl
  rw [e]
  exact q
/-- {t: v}, t a tuple -/
def tDispT (tk tv : TE) : TE := fun σ H Q => ∀ p, H p = none → tk σ (upd H p (.dT [])) fun x H1 => tv σ H1 fun v H2 => ∃ b k, x = .ref b ∧ H2 b = some (.tup (k.map kV)) ∧ H2 p = some (.dT []) ∧ Q (.ref p) (upd H2 p (.dT [(k, v)]))
theorem pe_dispT {ek ev : Expr} {tk tv : TE} {pos : Pos} (hu : X.A.units < cLine) (hk : PE X ek tk) (hv : PE X ev tv) : PE X (.Dict [some ek] [ev] pos) (tDispT tk tv) := by
  constructor
  intro pins s σ H Q I q
  have hn := I.hok.fresh (Nat.le_refl s.heap.objs.size)
  have I1 := I.laid (a := s.heap.objs.size) (o := .dT []) (h' := s.heap.push { cls := .type "dict", data := .dict #[] }) (t' := s.toks) (fun _ _ z => Heap.get?_push_of_some _ z) (Nat.le_refl _) (dt_empty s.heap I.big)
  rw [arm_eval_Dict, zip_pairTrees [some ek] [ev] X.env pos rfl rfl, dictDisplay_pairs (pairTrees [some ek] [ev] X.env pos) (by simp [pairTrees]) (by simp [pairTrees])]
  apply wpAny_bind
  apply wpAny_standAt
  apply wpAny_bind
  refine wpAny_subDictH (knd := tupleKind (mixKind X.prog X.w)) (show X.A.units < cLine from hu) (by show 1 ≤ 15; decide) ?_
  refine thn ((pps_cons (pos := pos) hk hv pps_nil).run pins _ σ _ (fun ps H2 => match ps with | [(x, v)] => ∃ b k, x = .ref b ∧ H2 b = some (.tup (k.map kV)) ∧ H2 s.heap.objs.size = some (.dT []) ∧ Q (.ref s.heap.objs.size) (upd H2 s.heap.objs.size (.dT [(k, v)])) | _ => False) I1 (q _ hn)) ?_
  rintro ws s2 ⟨ps, H2, I2, rel, hq⟩
  match ps, ws, rel, hq with
  | [(x, v)], [(u1, u2)], .cons ⟨r1, r2⟩ .nil, ⟨b, k, e, hb, hp, q2⟩ =>
    subst e
    obtain rfl : u1 = Value.ref b := r1
    obtain ⟨_, hd, ys, r0, dd⟩ := dt_of I2.hok hp
    cases r0
    refine ⟨[(k, b, u2)], ⟨rfl, rfl, key_of I2.hok hb, trivial⟩, dd, fun h' tk dd' hs => ?_⟩
    obtain ⟨o, es, ep, ho, h2, h3, h4, _, h5⟩ := dd'
    have npb : b ≠ s.heap.objs.size := ne_of hb hp (fun z => nomatch z)
    have I3 : Inv X pins σ (upd H2 s.heap.objs.size (.dT [(k, v)])) { s2 with heap := h', toks := tk } :=
      d_write I2 (by rw [hp]; exact True.intro) hs ⟨o, ho⟩ ⟨by show 1 ≤ sizeLine; decide, hd, [(k, b, u2)], .cons ⟨rfl, by rw [upd_ne npb]; exact hb, r2⟩ .nil, o, es, ep, ho, h2, h3, h4, h5⟩
    exact wpAny_pure ⟨.ref s.heap.objs.size, _, I3, rfl, q2⟩
end dts
mutual
inductive NkAt (H : Hp) : NestedKey → V → Prop
  | num (i : Int) : NkAt H (.num i) (.int i)
  | tup {a : Addr} {xs : List V} {ks : List NestedKey} : H a = some (.tup xs) → NkAll H ks xs → NkAt H (.tup ks) (.ref a)
inductive NkAll (H : Hp) : List NestedKey → List V → Prop
  | nil : NkAll H [] []
  | cons {k : NestedKey} {v : V} {ks : List NestedKey} {vs : List V} : NkAt H k v → NkAll H ks vs → NkAll H (k :: ks) (v :: vs)
end
section nds
variable {X : Cx}
mutual
theorem nk_is {pins : List (Addr × Obj)} {σ : L2.St} {H : Hp} {s : Shared} (I : Inv X pins σ H s) : ∀ (k : NestedKey) (v : V) (u : Value), NkAt H k v → RelV v u → NestedIs s.heap k u
  | .none, _, _, h, _ => nomatch h
  | .text _, _, _, h, _ => nomatch h
  | .num i, _, _, h, r => by
    cases h
    obtain ⟨t, rfl⟩ := r
    exact .int _ _
  | .tup ks, _, _, h, r => by
    cases h with
    | tup e hs =>
      cases r
      obtain ⟨_, its, rv, o, ho, hc, n, hd⟩ := I.hok _ _ e
      exact .tup ho hc hd (by simpa using nks_is I ks _ _ hs rv)
theorem nks_is {pins : List (Addr × Obj)} {σ : L2.St} {H : Hp} {s : Shared} (I : Inv X pins σ H s) : ∀ (ks : List NestedKey) (vs : List V) (us : List Value), NkAll H ks vs → Vals vs us → NestedAll s.heap ks us
  | [], _, _, h, r => by
    cases h
    cases r
    exact .nil
  | k :: ks, _, _, h, r => by
    cases h with
    | cons h1 h2 =>
      cases r with
      | cons r1 r2 => exact .cons (nk_is I k _ _ h1 r1) (nks_is I ks _ _ h2 r2)
end
mutual
theorem nk_stay {H H' : Hp} (t : TupsStay H H') : ∀ (k : NestedKey) (v : V), NkAt H k v → NkAt H' k v
  | .none, _, h => nomatch h
  | .text _, _, h => nomatch h
  | .num i, _, h => by
    cases h
    exact .num i
  | .tup ks, _, h => by
    cases h with
    | tup e hs => exact .tup (t _ _ e) (nks_stay t ks _ hs)
theorem nks_stay {H H' : Hp} (t : TupsStay H H') : ∀ (ks : List NestedKey) (vs : List V), NkAll H ks vs → NkAll H' ks vs
  | [], _, h => by
    cases h
    exact .nil
  | k :: ks, _, h => by
    cases h with
    | cons h1 h2 => exact .cons (nk_stay t k _ h1) (nks_stay t ks _ h2)
end
abbrev NE := NestedKey × Addr × V
abbrev NRel : List NE → List (NestedKey × Addr × Value) → Prop := Paired fun p q => p.1 = q.1 ∧ p.2.1 = q.2.1 ∧ RelV p.2.2 q.2.2
def NDO (P : Program) (w : World) (a : Addr) (xs : List NE) : HO := .ext fun h => xs.length ≤ sizeLine ∧ (a == sysModules) = false ∧ ∃ ys, NRel xs ys ∧ ∃ o es ep, h.get? a = some o ∧ o.ExactDict ∧ o.data = .dict es ep ∧ es.toList = ys.map (entryOfKey (nestedKind P w)) ∧ (ys.map (·.1)).Nodup
theorem ndo_ok {P : Program} {w : World} {H : Hp} {h : Heap} {a : Addr} {xs : List NE} {ys : List (NestedKey × Addr × Value)} (hz : xs.length ≤ sizeLine) (hd : (a == sysModules) = false) (r : NRel xs ys) (dd : h.DictOfH (nestedKind P w) a ys) : ObjOk P w H h a (NDO P w a xs) := by
  obtain ⟨o, es, ep, h1, h2, h3, h4, _, h5⟩ := dd
  refine ⟨⟨hz, hd, ys, r, o, es, ep, h1, h2, h3, h4, h5⟩, ⟨o, h1⟩, ?_⟩
  rintro g1 g2 ⟨z1, z2, ys, z3, o, es, ep, z4, z5⟩ k
  exact ⟨z1, z2, ys, z3, o, es, ep, k o z4, z5⟩
structure ND (P : Program) (w : World) (H : Hp) (a : Addr) (xs : List NE) : Prop where
  ob : H a = some (NDO P w a xs)
  ks : ∀ p ∈ xs, NkAt H p.1 (.ref p.2.1) ∧ p.1.depth ≤ 8
theorem ND.full {pins : List (Addr × Obj)} {σ : L2.St} {H : Hp} {s : Shared} {a : Addr} {xs : List NE} (I : Inv X pins σ H s) (h : ND X.prog X.w H a xs) : xs.length ≤ sizeLine ∧ (a == sysModules) = false ∧ ∃ ys, NRel xs ys ∧ s.heap.DictOfH (nestedKind X.prog X.w) a ys := by
  obtain ⟨⟨z1, z2, ys, z3, o, es, ep, z4, z5, z6, z7, z8⟩, _⟩ := I.hok a _ h.ob
  refine ⟨z1, z2, ys, z3, o, es, ep, z4, z5, z6, z7, fun y hy => ?_, z8⟩
  obtain ⟨i, hi⟩ := List.mem_iff_getElem?.mp hy
  obtain ⟨p, hp, e1, e2, _⟩ := awGet2 z3 hi
  obtain ⟨k1, k2⟩ := h.ks p (List.mem_of_getElem? hp)
  rw [e1, e2] at k1
  rw [e1] at k2
  exact ⟨nk_is I _ _ _ k1 rfl, k2⟩
def getN (xs : List NE) (k : NestedKey) : Option V := (xs.find? fun x => decide (x.1 = k)).map (·.2.2)
theorem getN_rel {k : NestedKey} : ∀ {xs : List NE} {ys : List (NestedKey × Addr × Value)}, NRel xs ys → RelO (getN xs k) ((atKey ys k).map (·.2))
  | _, _, .nil => trivial
  | x :: _, y :: _, .cons ⟨e1, _, e3⟩ t => by
    have ih := getN_rel (k := k) t
    unfold getN atKey at *
    rw [List.find?_cons, List.find?_cons, ← e1]
    by_cases h : x.1 = k
    · rw [decide_eq_true h]
      exact e3
    · rw [decide_eq_false h]
      exact ih
theorem getN_none {k : NestedKey} {xs : List NE} : getN xs k = none ↔ ∀ p ∈ xs, p.1 ≠ k := by
  unfold getN
  rw [Option.map_eq_none_iff, List.find?_eq_none]
  simp
theorem getN_some {k : NestedKey} {xs : List NE} {v : V} (h : getN xs k = some v) : ∃ b, (k, b, v) ∈ xs := by
  unfold getN at h
  cases e : xs.find? fun x => decide (x.1 = k) with
  | none => rw [e] at h; cases h
  | some p =>
    rw [e] at h
    have h2 : p.1 = k := of_decide_eq_true (List.find?_some (p := fun x : NE => decide (x.1 = k)) e)
    obtain rfl : p.2.2 = v := Option.some.inj h
    exact ⟨p.2.1, h2 ▸ List.mem_of_find?_eq_some e⟩
theorem nd_stay {P : Program} {w : World} {H H' : Hp} {a : Addr} {xs : List NE} (h : ND P w H a xs) (e : H' a = some (NDO P w a xs)) (t : TupsStay H H') : ND P w H' a xs := ⟨e, fun p hp => ⟨nk_stay t _ _ (h.ks p hp).1, (h.ks p hp).2⟩⟩
theorem nd_same {P : Program} {w : World} {H H' : Hp} {a : Addr} {xs : List NE} (h : ND P w H a xs) (s : Same H H') : ND P w H' a xs := nd_stay h (s _ _ h.ob) (Same.tups s)
/-- {} -/
theorem pe_ndnew {P : Program} {w : World} (hP : X.prog = P) (hw : X.w = w) {pos : Pos} : PE X (.Dict [] [] pos) (fun _ H Q => ∀ p, H p = none → Q (.ref p) (upd H p (NDO P w p []))) := by
  subst hP hw
  constructor
  intro pins s σ H Q I h
  have ok : ObjOk X.prog X.w (upd H s.heap.objs.size (NDO X.prog X.w s.heap.objs.size [])) (s.heap.push { cls := .type "dict", data := .dict #[] }) s.heap.objs.size (NDO X.prog X.w s.heap.objs.size []) :=
    ndo_ok (Nat.zero_le _) (beq_eq_false_iff_ne.mpr (Ne.symm (Nat.ne_of_lt I.big))) .nil (Heap.DictOfH.new s.heap)
  exact wpAny_Dict_empty ⟨.ref _, _, I.laid (t' := s.toks) (fun _ _ z => Heap.get?_push_of_some _ z) (Nat.le_refl _) ok, rfl, h _ (I.hok.fresh (Nat.le_refl _))⟩
theorem nd_nil {P : Program} {w : World} {H : Hp} {a : Addr} : ND P w (upd H a (NDO P w a [])) a [] := ⟨upd_same, (fun _ z => nomatch z)⟩
/-- what is asked of a key -/
def KeyN (H : Hp) (y : V) (k : NestedKey) : Prop := NkAt H k y ∧ k.depth ≤ 8 ∧ ∃ b, y = .ref b
def tNGet (P : Program) (w : World) (td ty : TE) : TE := fun σ H Q => td σ H fun x H1 => ty σ H1 fun y H2 => ∃ a xs k v, x = .ref a ∧ ND P w H2 a xs ∧ KeyN H2 y k ∧ getN xs k = some v ∧ Q v H2
def tNNotIn (P : Program) (w : World) (ty td : TE) : TE := fun σ H Q => ty σ H fun y H1 => td σ H1 fun x H2 => ∃ a xs k, x = .ref a ∧ ND P w H2 a xs ∧ KeyN H2 y k ∧ Q (.bl (!(getN xs k).isSome)) H2
def sNPut (P : Program) (w : World) (td ty tv : TE) : TS := fun D σ H => tv σ H fun v H1 => td σ H1 fun x H2 => ty σ H2 fun y H3 => ∃ a xs k b, x = .ref a ∧ ND P w H3 a xs ∧ y = .ref b ∧ KeyN H3 y k ∧ getN xs k = none ∧ xs.length < sizeLine ∧ D.nx σ (upd H3 a (NDO P w a (xs ++ [(k, b, v)])))
theorem nd_put {P : Program} {w : World} {H : Hp} {a b : Addr} {xs : List NE} {k : NestedKey} {v : V} (h : ND P w H a xs) (hk : KeyN H (.ref b) k) : ND P w (upd H a (NDO P w a (xs ++ [(k, b, v)]))) a (xs ++ [(k, b, v)]) := by
  have t : TupsStay H (upd H a (NDO P w a (xs ++ [(k, b, v)]))) := fun c ys e => by
    rw [upd_ne (ne_of e h.ob (fun z => nomatch z))]
    exact e
  refine ⟨upd_same, fun p hp => ?_⟩
  rcases List.mem_append.mp hp with hp | hp
  · exact ⟨nk_stay t _ _ (h.ks p hp).1, (h.ks p hp).2⟩
  · rw [List.mem_singleton.mp hp]
    exact ⟨nk_stay t _ _ hk.1, hk.2.1⟩
theorem nd_at {pins : List (Addr × Obj)} {σ : L2.St} {H : Hp} {s : Shared} {y : V} {k : NestedKey} {u : Value} (I : Inv X pins σ H s) (hk : KeyN H y k) (r : RelV y u) : ∃ b, u = .ref b ∧ y = .ref b ∧ (nestedKind X.prog X.w).is s.heap k b := by
  obtain ⟨h1, h2, b, rfl⟩ := hk
  obtain rfl : u = Value.ref b := r
  exact ⟨b, rfl, rfl, nk_is I _ _ _ h1 rfl, h2⟩
theorem nrel_none {k : NestedKey} {xs : List NE} {ys : List (NestedKey × Addr × Value)} (r : NRel xs ys) (h : getN xs k = none) : atKey ys k = none := by
  have z := getN_rel (k := k) r
  rw [h] at z
  cases e : atKey ys k with
  | none => rfl
  | some p => rw [e] at z; exact z.elim
theorem pe_ndget {P : Program} {w : World} (hP : X.prog = P) (hw : X.w = w) {o i : Expr} {td ty : TE} {pos : Pos} (hu : X.A.units + 64 < cLine) (ho : PE X o td) (hi : PE X i ty) (hs : NoSl i) : PE X (.Subscript o i pos) (tNGet P w td ty) := by
  subst hP hw
  constructor
  intro pins s σ H Q I h
  refine subD_of PySem.F.slot_dict_getitem.lookup hs (thn (ho.run pins s σ H _ I h) ?_)
  rintro u s1 ⟨x, H1, I1, rx, q1⟩
  refine thn (hi.run pins s1 σ H1 _ I1 q1) ?_
  rintro iv s2 ⟨y, H2, I2, ry, a, xs, k, v, rfl, hn, hk, hv, q2⟩
  obtain rfl : u = Value.ref a := rx
  obtain ⟨b, rfl, rfl, hb⟩ := nd_at I2 hk ry
  obtain ⟨_, hd, ys, r, dd⟩ := hn.full I2
  have z := getN_rel (k := k) r
  rw [hv] at z
  cases e : atKey ys k with
  | none => rw [e] at z; exact z.elim
  | some p =>
    rw [e] at z
    exact ⟨dd.typeIs, wpAny_getItem_heap (knd := nestedKind X.prog X.w) (show X.A.in1.units + 8 < cLine by show X.A.units + 1 + 8 < cLine; omega) hb dd e ⟨v, H2, I2.tok _, z, q2⟩⟩
theorem pc_ndnotin {P : Program} {w : World} (hP : X.prog = P) (hw : X.w = w) {o i : Expr} {td ty : TE} (hu : X.A.units + 64 < cLine) (hi : PE X i ty) (ho : PE X o td) : PC X .NotIn i o (tNNotIn P w ty td) := by
  subst hP hw
  constructor
  intro pins s σ H Q I h
  refine thn (hi.run pins s σ H _ I h) ?_
  rintro iv s1 ⟨y, H1, I1, ry, q1⟩
  refine thn (ho.run pins s1 σ H1 _ I1 q1) ?_
  rintro u s2 ⟨x, H2, I2, rx, a, xs, k, rfl, hn, hk, q2⟩
  obtain rfl : u = Value.ref a := rx
  obtain ⟨b, rfl, rfl, hb⟩ := nd_at I2 hk ry
  obtain ⟨_, hd, ys, r, dd⟩ := hn.full I2
  have z := (getN_rel (k := k) r).isSome_eq
  rw [Option.isSome_map] at z
  refine notIn_keyed (knd := nestedKind X.prog X.w) (show X.A.in1.units + 8 < cLine by show X.A.units + 1 + 8 < cLine; omega) hb hd ⟨ys, dd, rfl⟩ ⟨.bl (!(getN xs k).isSome), H2, I2.tok _, ?_, q2⟩
  rw [valueAt_pairsH, Option.isSome_map, ← z]
  rfl
theorem nd_write {pins : List (Addr × Obj)} {σ : L2.St} {H : Hp} {s : Shared} {a b : Addr} {xs : List NE} {ys : List (NestedKey × Addr × Value)} {k : NestedKey} {v : V} {r : Value} {h' : Heap} {tk : Nat} (I : Inv X pins σ H s) (hn : ND X.prog X.w H a xs) (hl : xs.length < sizeLine) (rel : NRel xs ys) (hd : (a == sysModules) = false)
    (h0 : atKey ys k = none) (rv : RelV v r) (dd : h'.DictOfH (nestedKind X.prog X.w) a (storedH ys k b r)) (hs : Heap.SameBut a s.heap h') : Inv X pins σ (upd H a (NDO X.prog X.w a (xs ++ [(k, b, v)]))) { s with heap := h', toks := tk } := by
  rw [storedH_new h0] at dd
  have he : ∃ o, h'.get? a = some o := dd.elim fun o z => ⟨o, z.choose_spec.choose_spec.1⟩
  refine d_write I (by rw [hn.ob]; exact True.intro) hs he (ndo_ok ?_ hd (awSnoc (F := fun (p : NE) (q : NestedKey × Addr × Value) => p.1 = q.1 ∧ p.2.1 = q.2.1 ∧ RelV p.2.2 q.2.2) ⟨rfl, rfl, rv⟩ rel) dd)
  rw [List.length_append]
  exact hl
theorem ps_ndput {P : Program} {w : World} (hP : X.prog = P) (hw : X.w = w) {o i value : Expr} {td ty tv : TE} {pos pos' : Pos} (hu : X.A.units + 64 < cLine) (ho : PE X o td) (hi : PE X i ty) (hv : PE X value tv) (hs : swapsWith value (some (.Subscript o i pos')) pos.line X.env = pure false) :
    PS X (.Assign [.Subscript o i pos'] value pos) (sNPut P w td ty tv) := by
  subst hP hw
  constructor
  intro pins s σ H D I h
  refine wpAny_Assign_Subscript (thn (hv.run pins s σ H _ I h) ?_) hs
  rintro r s1 ⟨v, H1, I1, rv, q1⟩
  refine thn (ho.run pins s1 σ H1 _ I1 q1) ?_
  rintro u s2 ⟨x, H2, I2, rx, q2⟩
  refine thn (hi.run pins s2 σ H2 _ I2 q2) ?_
  rintro iv s3 ⟨y, H3, I3, ry, a, xs, k, b, rfl, hn, rfl, hk, hg, hl, q3⟩
  obtain rfl : u = Value.ref a := rx
  obtain ⟨b', rfl, eb, hb⟩ := nd_at I3 hk ry
  obtain rfl : b = b' := V.ref.inj eb
  obtain ⟨_, hd, ys, rel, dd⟩ := hn.full I3
  have hz : ys.length ≤ sizeLine := by
    have := awLen rel
    omega
  exact wpAny_setItem_heap (knd := nestedKind X.prog X.w) (hsz := hz) (show X.A.in1.units + 8 < cLine by show X.A.units + 1 + 8 < cLine; omega) hb dd fun h' dd' hs' => ⟨σ, _, nd_write I3 hn hl rel hd (nrel_none rel hg) rv dd' hs', q3⟩
/-- {t: v} -/
def tNDisp (P : Program) (w : World) (tk tv : TE) : TE := fun σ H Q => ∀ p, H p = none → tk σ (upd H p (NDO P w p [])) fun x H1 => tv σ H1 fun v H2 => ∃ b k, x = .ref b ∧ KeyN H2 x k ∧ H2 p = some (NDO P w p []) ∧ Q (.ref p) (upd H2 p (NDO P w p [(k, b, v)]))
theorem pe_ndisp {P : Program} {w : World} (hP : X.prog = P) (hw : X.w = w) {ek ev : Expr} {tk tv : TE} {pos : Pos} (hu : X.A.units + 64 < cLine) (hk : PE X ek tk) (hv : PE X ev tv) : PE X (.Dict [some ek] [ev] pos) (tNDisp P w tk tv) := by
  subst hP hw
  constructor
  intro pins s σ H Q I q
  have hn := I.hok.fresh (Nat.le_refl s.heap.objs.size)
  have ok : ObjOk X.prog X.w (upd H s.heap.objs.size (NDO X.prog X.w s.heap.objs.size [])) (s.heap.push { cls := .type "dict", data := .dict #[] }) s.heap.objs.size (NDO X.prog X.w s.heap.objs.size []) :=
    ndo_ok (Nat.zero_le _) (beq_eq_false_iff_ne.mpr (Ne.symm (Nat.ne_of_lt I.big))) .nil (Heap.DictOfH.new s.heap)
  have I1 := I.laid (t' := s.toks) (fun _ _ z => Heap.get?_push_of_some _ z) (Nat.le_refl _) ok
  rw [arm_eval_Dict, zip_pairTrees [some ek] [ev] X.env pos rfl rfl, dictDisplay_pairs (pairTrees [some ek] [ev] X.env pos) (by simp [pairTrees]) (by simp [pairTrees])]
  apply wpAny_bind
  apply wpAny_standAt
  apply wpAny_bind
  refine wpAny_subDictH (knd := nestedKind X.prog X.w) (show X.A.units + 8 < cLine by omega) (by show 1 ≤ 15; decide) ?_
  refine thn ((pps_cons (pos := pos) hk hv pps_nil).run pins _ σ _ (fun ps H2 => match ps with | [(x, v)] => ∃ b k, x = .ref b ∧ KeyN H2 x k ∧ H2 s.heap.objs.size = some (NDO X.prog X.w s.heap.objs.size []) ∧ Q (.ref s.heap.objs.size) (upd H2 s.heap.objs.size (NDO X.prog X.w s.heap.objs.size [(k, b, v)])) | _ => False) I1 (q _ hn)) ?_
  rintro ws s2 ⟨ps, H2, I2, rel, hq⟩
  cases rel with
  | nil => exact hq.elim
  | cons r t =>
    cases t with
    | cons _ _ => exact hq.elim
    | nil =>
    rename_i p0 w0
    obtain ⟨x, v⟩ := p0
    obtain ⟨u1, u2⟩ := w0
    obtain ⟨r1, r2⟩ := r
    obtain ⟨b, k, e, hk2, hp, q2⟩ := hq
    subst e
    obtain ⟨b', rfl, eb, hb⟩ := nd_at I2 hk2 r1
    obtain rfl : b = b' := V.ref.inj eb
    have hN : ND X.prog X.w H2 s.heap.objs.size [] := ⟨hp, (fun _ z => nomatch z)⟩
    obtain ⟨_, hd, ys, r0, dd⟩ := hN.full I2
    cases r0
    refine ⟨[(k, b, u2)], ⟨rfl, rfl, hb, trivial⟩, dd, fun h' tk dd' hs => ?_⟩
    exact wpAny_pure ⟨.ref s.heap.objs.size, _, nd_write I2 hN (by show 0 < sizeLine; decide) .nil hd rfl r2 dd' hs, rfl, q2⟩
/-- len(d) -/
theorem call_lenN {P : Program} {w : World} (hP : X.prog = P) (hw : X.w = w) : CallR X (.builtin "len") (fun vs H Q => ∃ p xs, vs = [.ref p] ∧ ND P w H p xs ∧ Q (.int ((xs.length : Nat) : Int)) H) := by
  subst hP hw
  intro pins s σ H vs us Q I r h
  obtain ⟨p, xs, rfl, hn, q⟩ := h
  obtain ⟨u, rfl, ru⟩ := vals1 r
  obtain rfl : u = Value.ref p := ru
  obtain ⟨z, hd, ys, rel, dd⟩ := hn.full I
  have hl : xs.length = ys.length := awLen rel
  refine call_len_dictH hd dd (by rw [← hl]; rw [sizeLine_eq] at z; omega) ?_
  rw [← hl]
  exact ⟨.int _, H, I.tok _, ⟨_, rfl⟩, q⟩
/-- d.setdefault(k, v) -/
def rNSetd (P : Program) (w : World) : V → List V → Hp → VK → Prop := fun x vs H Q => ∃ a xs k b v, x = .ref a ∧ vs = [.ref b, v] ∧ ND P w H a xs ∧ KeyN H (.ref b) k ∧ xs.length < sizeLine ∧ (∀ y, getN xs k = some y → Q y H) ∧ (getN xs k = none → Q v (upd H a (NDO P w a (xs ++ [(k, b, v)]))))
theorem mt_nsetd (hu : X.A.units + 64 < cLine) : MtR X "dict.setdefault" (rNSetd X.prog X.w) := by
  intro pins s σ H x vs v us Q I rx rxs h
  obtain ⟨a, xs, k, b, v0, rfl, rfl, hn, hk, hl, q1, q2⟩ := h
  cases rx
  obtain ⟨u1, u2, rfl, r1, r2⟩ := vals2 rxs
  obtain ⟨b', rfl, eb, hb⟩ := nd_at I hk r1
  obtain rfl : b = b' := V.ref.inj eb
  obtain ⟨_, hd, ys, rel, dd⟩ := hn.full I
  have hz : ys.length ≤ sizeLine := by
    have := awLen rel
    omega
  have z := getN_rel (k := k) rel
  refine call_setdefault_heap (knd := nestedKind X.prog X.w) (hsz := hz) (show X.A.in1.units + 8 < cLine by show X.A.units + 1 + 8 < cLine; omega) hb hd dd (fun p hp => ?_) (fun h0 h' dd' hs => ?_)
  · rw [hp] at z
    cases e : getN xs k with
    | none => rw [e] at z; exact z.elim
    | some y =>
      rw [e] at z
      exact ⟨y, H, I.tok _, z, q1 y e⟩
  · rw [h0] at z
    cases e : getN xs k with
    | some y => rw [e] at z; exact z.elim
    | none => exact ⟨v0, _, nd_write I hn hl rel hd h0 r2 dd' hs, r2, q2 e⟩
def tNSetd (P : Program) (w : World) (to : TE) (t : TA) : TE := fun σ H Q => to σ H fun x H1 => (∃ a xs, x = V.ref a ∧ ND P w H1 a xs) ∧ t σ H1 fun vs H2 => rNSetd P w x vs H2 Q
theorem pe_nsetd {P : Program} {w : World} (hP : X.prog = P) (hw : X.w = w) {o e : Expr} {es : List Expr} {to : TE} {t : TA} {apos cpos : Pos} (hu : X.A.units + 64 < cLine) (ho : PE X o to) (ha : PA X (e :: es) t)
    (c1 : attributeBase o "setdefault" X.env (eval o X.env) = eval o X.env := by rfl)
    (c2 : ((backTo cpos (starEach (e :: es) X.env)).all (fun x => !x.1) && (backToKw cpos (keywordEach [] X.env)).all (fun x => x.1.isSome) && decide ((e :: es).length + ([] : List Keyword).length + (if ([] : List Keyword).isEmpty then 0 else 1) < 30)) = true := by rfl)
    (c3 : (apos.endLine == cpos.line) = true := by rfl) (c4 : starEach (e :: es) X.env = (false, eval e X.env) :: starEach es X.env := by rfl) (c5 : (backTo cpos (starEach es X.env)).any (·.1) = false := by rfl) :
    PE X (.Call (.Attribute o "setdefault" apos) (e :: es) [] cpos) (tNSetd P w to t) := by
  subst hP hw
  constructor
  intro pins s σ H Q I h
  refine wpAny_Call_method_late c1 c2 c3 rfl (thn (ho.run pins s σ H _ I h) ?_)
  rintro v s1 ⟨x, H1, I1, r1, ⟨a, xs, rfl, hn⟩, q1⟩
  cases r1
  obtain ⟨_, hd, ys, rel, dd⟩ := hn.full I1
  obtain ⟨ob, es', ep, g1, g2, _⟩ := id dd
  refine ⟨"dict", "dict.setdefault", F.plainAttrs_dict, F.slot_dict_setdefault, F.type_dict_setdefault, dd.typeIs, (fun z e => ⟨ob, by injection e with e; rw [← e]; exact g1, g2.2.1⟩), ?_⟩
  have hA := ha.run cpos pins s1 σ H1 _ I1 q1
  rw [c4] at hA ⊢
  refine Calls.callWith_builtin (by show (false || (backTo cpos (starEach es X.env)).any (·.1)) = false; rw [c5]; rfl) (Calls.evalArgs_plain ?_)
  exact thn hA fun us s2 ⟨vs, H2, I2, r2, q2⟩ => mt_nsetd hu pins s2 σ H2 (.ref a) vs (.ref a) us Q I2 rfl r2 q2
end nds
def spWell (K : PySem.W.Frag) : Sp := fun vs H Q _ => ∃ (a : Addr) (ns : List Int), vs = [.ref a] ∧ SqL K H a (ns.map V.int) ∧ ns.length ≤ 63 ∧ (∀ z ∈ ns, Builtin.Int.intBits z ≤ 1048576) ∧
  ∀ H' p c, Same H H' → H p = none → H c = none → WL H' p c → Q (.ref p) H'
theorem ok_well {f : Addr} {fd : FuncData} {k : Nat} (F : Fun K "_law_well" "_law_well" s_law_well f fd) (ma : mg "abs" = none) : FnOk P w K mg base CX0 (k + 1) f fd ["script"] (spWell K) := by
  refine F.ok sc_law_well (fun vs H Q E h => ?_) (fun cdv A outer s H vs Q E hr h => ?_)
  · obtain ⟨a, ns, rfl, _⟩ := h
    rfl
  · obtain ⟨a, ns, rfl, hS, hlen, hbits, q⟩ := h
    refine ⟨_, pss_cons (ps_set (i := 1) sc_law_well.nd rfl (.inl rfl) pe_int)
      (pss_cons (ps_for PassesOwn.never rfl (pi_list (pv 0)) (pg_name (i := 2) sc_law_well.nd rfl (.inl rfl))
        (pss_one (ps_set (i := 1) sc_law_well.nd rfl (.inl rfl) (pe_op op_add (pe_op op_mod (pe_op op_powW (pe_op op_add (pe_op op_mul (pv 1) pe_int) (pv 2)) pe_int) pe_int) pe_int))))
      (pss_one (ps_ret (pe_lst (pa_cons (pe_lc (own := [("cell", 2)]) (g := gName 2) (by rfl) sc_law_well.nd (pi_list (pv 0)) (blkOk_by (own := [("cell", 2)]) (N := ["script", "seed", "cell"]) (sc := defScope s_law_well) (by decide +kernel))
          (fun _ _ _ _ _ => pg_name (i := 2) sc_law_well.nd rfl (Or.inl rfl)) (fun _ _ _ _ _ => pts_nil)
          (fun _ _ _ _ _ => pe_callB call_abs (by rfl) ma (by decide +kernel) (pa_cons (pv 2) pa_nil))) (pa_cons pe_int (pa_cons (pv 1) pa_nil))))))), ?_⟩
    refine ⟨.ref a, rfl, a, rfl, ⟨_, hS⟩, for_list (K := K) (a := a) (xs := ns.map V.int) (fun i σ H3 => ∃ z y, σ = [some (.ref a), some (.int z), y] ∧ 0 ≤ z ∧ z ≤ 2147483629 ∧ H3 = H) ⟨1, none, rfl, by decide, by decide, rfl⟩ (fun i σ H3 _ hp => ?_) (fun i x σ H3 hx hp => ?_) (fun σ H3 hp => ?_)⟩
    · obtain ⟨z, y, _, _, _, rfl⟩ := hp
      exact hS
    · obtain ⟨z, y, rfl, h0, h1, rfl⟩ := hp
      obtain ⟨c, hc, rfl⟩ : ∃ c, c ∈ ns ∧ x = .int c := by
        rw [List.getElem?_map] at hx
        cases e : ns[i]? with
        | none => rw [e] at hx; cases hx
        | some c => rw [e] at hx; exact ⟨c, List.mem_of_getElem? e, (Option.some.inj hx).symm⟩
      refine ⟨.int z, rfl, z, 50021, rfl, rfl, .inr ⟨by decide, by decide⟩, .int c, rfl, _, _, rfl, rfl, _, 3, rfl, rfl, seed_ok h0 h1 (hbits c hc), _, 2147483629, rfl, rfl, (by show (0 : Int) < 2147483629; decide), _, 1, rfl, rfl, ?_⟩
      refine ⟨_, some (.int c), rfl, ?_, ?_, rfl⟩
      · have := Int.emod_nonneg ((z * 50021 + c) ^ (3 : Int).toNat) (show (2147483629 : Int) ≠ 0 by decide)
        omega
      · have := Int.emod_lt_of_pos ((z * 50021 + c) ^ (3 : Int).toNat) (show (0 : Int) < 2147483629 by decide)
        omega
    · obtain ⟨z, y, rfl, h0, h1, rfl⟩ := hp
      refine ⟨.ref a, rfl, a, rfl, ⟨_, hS⟩, fun D hD => ?_⟩
      have sD : ∀ o, Same H3 (upd H3 D o) := fun o => same_new hD
      refine lc_list (K := K) (a := a) (xs := ns.map V.int) (fun i H4 => ∃ cs : List Int, cs.length = i ∧ H4 = upd H3 D (.lst (cs.map V.int))) ⟨[], rfl, rfl⟩ (fun i H4 _ hp => ?_) (fun i x H4 hx hp => ?_) (fun H4 hp => ?_)
      · obtain ⟨cs, _, rfl⟩ := hp
        exact (sD _).seq hS
      · obtain ⟨cs, hl, rfl⟩ := hp
        obtain ⟨c, hc, rfl⟩ : ∃ c, c ∈ ns ∧ x = .int c := by
          rw [List.getElem?_map] at hx
          cases e : ns[i]? with
          | none => rw [e] at hx; cases hx
          | some c => rw [e] at hx; exact ⟨c, List.mem_of_getElem? e, (Option.some.inj hx).symm⟩
        have hi : i < ns.length := by
          have := (List.getElem?_eq_some_iff.mp hx).1
          rwa [List.length_map] at this
        refine ⟨rfl, .int c, rfl, c, rfl, _, upd_same, ?_, cs ++ [if c < 0 then -c else c], ?_, ?_⟩
        · rw [List.length_map, hl]
          exact small1000 (by omega)
        · rw [List.length_append, hl]
          rfl
        · rw [upd_upd, List.map_append]
          rfl
      · obtain ⟨cs, hl, rfl⟩ := hp
        refine ⟨.int z, rfl, by show 3 ≤ sizeLine; decide, fun p hp => ?_⟩
        have np : p ≠ D := fun e => by
          rw [e, upd_same] at hp
          cases hp
        have hp2 : H3 p = none := by
          rw [upd_ne np] at hp
          exact hp
        refine q _ p D ((sD _).trans (same_new hp)) hp2 hD ⟨np, cs, 0, z, upd_same, ?_⟩
        rw [upd_ne np.symm, upd_same]
def spDraw : Sp := fun vs H Q _ => ∃ (a c : Addr) (m : Int), vs = [.ref a, .int m] ∧ 0 < m ∧ m ≤ 2 ^ 80 ∧ WL H a c ∧ ∀ H' z, 0 ≤ z → z < m → WL H' a c → Kp a c H H' → Q (.int z) H'
theorem ok_draw {f : Addr} {fd : FuncData} {k : Nat} (F : Fun K "_law_draw" "_law_draw" s_law_draw f fd) : FnOk P w K mg base CX0 (k + 1) f fd ["well", "many"] spDraw := by
  refine F.ok sc_law_draw (fun vs H Q E h => ?_) (fun cdv A outer s H vs Q E hr h => ?_)
  · obtain ⟨a, c, m, rfl, _⟩ := h
    rfl
  · obtain ⟨a, c, m, rfl, hm, hm2, hw, q⟩ := h
    refine ⟨_, pss_mid (ps_if (PW.pt (pw_and (pt_cmpR op_eq (pe_ix ix_list (pv 0) pe_int (fun _ _ => rfl)) pe_int (nomark _))
          (pw_and1 (pt_cmpR (op_neD hr.units) (pe_ix ix_list (pv 0) pe_int (fun _ _ => rfl)) (pe_lst pa_nil) (nomark _)))))
        (pss_cons (ps_set (i := 2) sc_law_draw.nd rfl (.inl rfl) (pe_bm PySem.F.plainAttrs_list PySem.F.slot_list_pop PySem.F.type_list_pop mt_popAt (pe_ix ix_list (pv 0) pe_int (fun _ _ => rfl)) (pa_cons pe_int pa_nil)))
        (pss_cons (ps_if (pt_cmpR op_lt (pv 2) (pe_op op_pow pe_int pe_int) (nomark _)) (pss_one (ps_ret (pe_op op_mod (pv 2) (pv 1)))) pss_nil)
        (pss_one (ps_asg (pv 2) (pg_sub (pv 0) pe_int set_list))))) pss_nil)
      (pss_cons (ps_if (pt_cmpR op_gt (pe_ix ix_list (pv 0) pe_int (fun _ _ => rfl)) pe_int (nomark _))
        (pss_cons (ps_set (i := 3) sc_law_draw.nd rfl (.inl rfl) (pe_op op_mod (pe_ix ix_list (pv 0) pe_int (fun _ _ => rfl)) (pv 1)))
        (pss_cons (ps_asg (pe_op op_fdivW (pe_ix ix_list (pv 0) pe_int (fun _ _ => rfl)) (pv 1)) (pg_sub (pv 0) pe_int set_list))
        (pss_one (ps_ret (pv 3))))) pss_nil)
      (pss_cons (ps_asg (pe_op op_mod (pe_op op_add (pe_op op_mul (pe_ix ix_list (pv 0) pe_int (fun _ _ => rfl)) pe_int) pe_int) pe_int) (pg_sub (pv 0) pe_int set_list))
      (pss_one (ps_ret (pe_op op_mod (pe_op op_fdiv (pe_op op_mod (pe_op op_pow (pe_op op_mod (pe_op op_pow (pe_ix ix_list (pv 0) pe_int (fun _ _ => rfl)) pe_int) pe_int) pe_int) pe_int) pe_int) (pv 1)))))), ?_⟩
    refine ⟨fun σ2 H2 => ∃ y, σ2 = [some (.ref a), some (.int m), y, none] ∧ WL H2 a c ∧ Kp a c H H2, ?_, ?_⟩
    · obtain ⟨nac, cs, r, sd, ea, ec⟩ := id hw
      have lA : SqL K H a [.ref c, .int r, .int sd] := .inl (.inl ea)
      refine ⟨.ref a, rfl, a, _, 1, .int r, rfl, rfl, lA, rfl, rfl, _, rfl, ite2 (fun e => ?_) (fun e => ?_)⟩
      · refine ⟨.ref a, rfl, a, _, 0, .ref c, rfl, rfl, lA, rfl, Nat.zero_le _, fun p hp => ?_⟩
        have sp : Same H (upd H p (.lst [])) := same_new hp
        refine ⟨.list (cs.map PyData.int), .list [], .lst (sp.seq (.inl (.inl ec))) (dp_ints cs), .lst (.inl (.inl upd_same)) .nil, shaped_ints cs, by decide +kernel, _, rfl, ?_⟩
        have ec2 : upd H p (.lst []) c = some (.lst (cs.map V.int)) := sp _ _ ec
        have ea2 : upd H p (.lst []) a = some (.lst [.ref c, .int r, .int sd]) := sp _ _ ea
        have lA2 : SqL K (upd H p (.lst [])) a [.ref c, .int r, .int sd] := .inl (.inl ea2)
        cases cs with
        | nil =>
          rw [show PyData.eqv (.list (([] : List Int).map PyData.int)) (.list []) = true by decide +kernel]
          exact ⟨_, rfl, hw.same sp, Same.kp sp⟩
        | cons x cs =>
          rw [show PyData.eqv (.list ((x :: cs).map PyData.int)) (.list []) = false by simp only [List.map_cons, PyData.eqv, PyData.eqvAll]]
          refine ⟨.ref a, rfl, a, _, 0, .ref c, rfl, rfl, lA2, rfl, .inl ⟨rfl, _, .inl (.inl ec2)⟩, c, _, 0, 0, .int x, rfl, rfl, ec2, by decide, by decide, ?_, rfl, ?_⟩
          · rw [List.length_map, List.length_cons]
            exact seq0 _
          have w3 : WL (upd (upd H p (.lst [])) c (.lst (List.eraseIdx ((x :: cs).map V.int) 0))) a c := ⟨nac, cs, r, sd, by rw [upd_ne nac]; exact ea2, upd_same⟩
          have k3 : Kp a c H (upd (upd H p (.lst [])) c (.lst (List.eraseIdx ((x :: cs).map V.int) 0))) := fun b o n1 n2 eb => by
            rw [upd_ne n2]
            exact sp _ _ eb
          refine ⟨.int x, rfl, 10, 18, rfl, rfl, ⟨by decide, by decide, by decide⟩, x, _, rfl, rfl, _, rfl, ite2 (fun e => ?_) (fun e => ?_)⟩
          · exact ⟨.int x, rfl, .int m, rfl, x, m, rfl, rfl, hm, q _ _ (Int.emod_nonneg _ (by omega)) (Int.emod_lt_of_pos _ hm) w3 k3⟩
          · refine ⟨.int x, rfl, .ref a, rfl, a, _, 1, 1, rfl, rfl, by rw [upd_ne nac]; exact ea2, rfl, some (.int x), rfl, ?_, ?_⟩
            · exact ⟨nac, cs, x, sd, upd_same, by rw [upd_ne nac.symm]; exact upd_same⟩
            · intro b o n1 n2 eb
              rw [upd_ne n1]
              exact k3 b o n1 n2 eb
      · exact ⟨_, rfl, hw, Kp.refl a c H⟩
    · rintro σ2 H2 ⟨y, rfl, hw2, kp⟩
      obtain ⟨nac, cs, r, sd, ea, ec⟩ := id hw2
      have lA : SqL K H2 a [.ref c, .int r, .int sd] := .inl (.inl ea)
      refine ⟨.ref a, rfl, a, _, 1, .int r, rfl, rfl, lA, rfl, r, 0, rfl, rfl, _, rfl, ite2 (fun e => ?_) (fun e => ?_)⟩
      · refine ⟨.ref a, rfl, a, _, 1, .int r, rfl, rfl, lA, rfl, .int m, rfl, r, m, rfl, rfl, hm, ?_⟩
        refine ⟨.ref a, rfl, a, _, 1, .int r, rfl, rfl, lA, rfl, .int m, rfl, r, m, rfl, rfl, wide_div (b := 81) hm (by omega) (by decide) (by decide), ?_⟩
        refine ⟨.ref a, rfl, a, _, 1, 1, rfl, rfl, ea, rfl, .int (r % m), rfl, ?_⟩
        refine q _ _ (Int.emod_nonneg _ (by omega)) (Int.emod_lt_of_pos _ hm) ⟨nac, cs, r / m, sd, upd_same, ?_⟩ ?_
        · rw [upd_ne nac.symm]
          exact ec
        · intro b o n1 n2 eb
          rw [upd_ne n1]
          exact kp b o n1 n2 eb
      · refine ⟨.ref a, rfl, a, _, 2, .int sd, rfl, rfl, lA, rfl, sd, 48271, rfl, rfl, .inr ⟨by decide, by decide⟩, _, 12345, rfl, rfl, _, 2147483647, rfl, rfl, (by show (0 : Int) < 2147483647; decide), ?_⟩
        have l0 := Int.emod_nonneg (sd * 48271 + 12345) (show (2147483647 : Int) ≠ 0 by decide)
        have l1 := Int.emod_lt_of_pos (sd * 48271 + 12345) (show (0 : Int) < 2147483647 by decide)
        obtain ⟨z, hz⟩ : ∃ z : Int, (sd * 48271 + 12345) % 2147483647 = z := ⟨_, rfl⟩
        rw [hz] at l0 l1
        refine ⟨.ref a, rfl, a, _, 2, 2, rfl, rfl, ea, rfl, ?_⟩
        have l2 := Int.emod_nonneg (z ^ (3 : Int).toNat) (show (2147483629 : Int) ≠ 0 by decide)
        have l3 := Int.emod_lt_of_pos (z ^ (3 : Int).toNat) (show (0 : Int) < 2147483629 by decide)
        refine ⟨.ref a, rfl, a, _, 2, .int z, rfl, rfl, .inl (.inl upd_same), (by rw [← hz]; rfl), z, 3, rfl, rfl, ⟨by decide, by decide, by omega⟩, _, 2147483629, rfl, rfl, (by show (0 : Int) < 2147483629; decide), ?_⟩
        obtain ⟨x, hx⟩ : ∃ x : Int, z ^ (3 : Int).toNat % 2147483629 = x := ⟨_, rfl⟩
        rw [hx] at l2 l3
        refine ⟨x, 5, congrArg V.int hx, rfl, ⟨by decide, by decide, by omega⟩, _, 1000000007, rfl, rfl, (by show (0 : Int) < 1000000007; decide), _, 7, rfl, rfl, ⟨by decide, by decide⟩, .int m, rfl, _, m, rfl, rfl, hm, ?_⟩
        refine q _ _ (Int.emod_nonneg _ (by omega)) (Int.emod_lt_of_pos _ hm) ⟨nac, cs, r, z, (by rw [← hz]; exact upd_same), ?_⟩ ?_
        · rw [upd_ne nac.symm]
          exact ec
        · intro b o n1 n2 eb
          rw [upd_ne n1]
          exact kp b o n1 n2 eb
def spTop : Sp := fun vs H Q _ => ∃ n : Nat, vs = [.int (n : Int)] ∧ n ≤ 1000 ∧ Q (.int (2 ^ n)) H
theorem ok_top {f : Addr} {fd : FuncData} {k : Nat} (F : Fun K "_law_top" "_law_top" s_law_top f fd) (mr : mg "range" = none) : FnOk P w K mg base CX0 (k + 1) f fd ["width"] spTop := by
  refine F.ok sc_law_top (fun vs H Q E h => ?_) (fun cdv A outer s H vs Q E hr h => ?_)
  · obtain ⟨n, rfl, _⟩ := h
    rfl
  · obtain ⟨n, rfl, hn, q⟩ := h
    refine ⟨_, pss_cons (ps_set (i := 1) sc_law_top.nd rfl (.inl rfl) pe_int)
      (pss_cons (ps_for PassesOwn.never rfl (pi_range1 (by rfl) mr (pa_cons (pv 0) pa_nil)) (pg_name (i := 2) sc_law_top.nd rfl (.inl rfl)) (pss_one (ps_set (i := 1) sc_law_top.nd rfl (.inl rfl) (pe_op op_mul pe_int (pv 1)))))
      (pss_one (ps_ret (pv 1)))), ?_⟩
    refine ⟨.int n, rfl, n, rfl, by omega, by omega, for_range (lo := 0) (n := n) (fun i σ H3 => ∃ y, σ = [some (.int (n : Int)), some (.int (2 ^ i)), y] ∧ H3 = H) ⟨none, rfl, rfl⟩ (fun i σ H3 hi hp => ?_) (fun σ H3 hp => ?_)⟩
    · obtain ⟨y, rfl, rfl⟩ := hp
      refine ⟨.int (2 ^ i), rfl, 2, 2 ^ i, rfl, rfl, .inl ⟨by decide, by decide⟩, some (.int (0 + i)), ?_, rfl⟩
      have e : (2 : Int) * 2 ^ i = 2 ^ (i + 1) := by rw [Int.pow_succ, Int.mul_comm]
      show _ = [some (V.int (n : Int)), some (V.int (2 ^ (i + 1))), some (V.int (0 + i))]
      rw [← e]
      rfl
    · obtain ⟨y, rfl, rfl⟩ := hp
      exact ⟨_, rfl, q⟩
abbrev sWalk___init__ : Stmt := inClass c_Walk 0
abbrev sWalk_meet : Stmt := inClass c_Walk 1
theorem scWi : FnScope ["self", "first"] ["self", "first"] (defScope sWalk___init__) := ⟨rfl, rfl, rfl, by decide +kernel, rfl, by decide +kernel, by decide +kernel⟩
theorem scWm : FnScope ["self", "thing", "ahead", "bits"] ["self", "thing", "ahead", "bits"] (defScope sWalk_meet) := ⟨rfl, rfl, rfl, by decide +kernel, rfl, by decide +kernel, by decide +kernel⟩
theorem w_mn : ¬ ("met" : Str) = "numbers" := by decide +kernel
theorem w_mw : ¬ ("met" : Str) = "ways" := by decide +kernel
theorem w_nw : ¬ ("numbers" : Str) = "ways" := by decide +kernel
def wF (M N W : Addr) : List (Str × V) := putF "ways" (.ref W) (putF "numbers" (.ref N) (putF "met" (.ref M) []))
theorem wF_met (M N W : Addr) : (wF M N W).lookup ("met" : Str) = some (.ref M) := by
  unfold wF
  rw [lookup_putF, if_neg w_mw, lookup_putF, if_neg w_mn, lookup_putF, if_pos rfl]
theorem wF_num (M N W : Addr) : (wF M N W).lookup ("numbers" : Str) = some (.ref N) := by
  unfold wF
  rw [lookup_putF, if_neg w_nw, lookup_putF, if_pos rfl]
theorem wF_ways (M N W : Addr) : (wF M N W).lookup ("ways" : Str) = some (.ref W) := by
  unfold wF
  rw [lookup_putF, if_pos rfl]
theorem wF_no (M N W : Addr) {m : Str} (h1 : ¬ m = "ways") (h2 : ¬ m = "numbers") (h3 : ¬ m = "met") : (wF M N W).lookup m = none := by
  unfold wF
  rw [lookup_putF, if_neg h1, lookup_putF, if_neg h2, lookup_putF, if_neg h3]
  rfl
theorem wF_meet (M N W : Addr) : (wF M N W).lookup ("meet" : Str) = none := wF_no M N W (by decide +kernel) (by decide +kernel) (by decide +kernel)
structure WCls (K : PySem.W.Frag) (mg : Str → Option Value) (C : Addr) : Prop where
  cl : Cls K C
  nM : NoAttr K C "met"
  nN : NoAttr K C "numbers"
  nW : NoAttr K C "ways"
  mgC : mg "Walk" = some (.ref C)
abbrev WT := NestedKey × Addr
def numE (ts : List WT) : List NE := ts.mapIdx fun i t => (t.1, t.2, .int (i : Nat))
theorem numE_snoc (ts : List WT) (t : WT) : numE (ts ++ [t]) = numE ts ++ [(t.1, t.2, .int (ts.length : Nat))] := by
  unfold numE
  rw [List.mapIdx_append]
  simp
theorem numE_len (ts : List WT) : (numE ts).length = ts.length := List.length_mapIdx ..
theorem numE_mem {ts : List WT} {e : NE} (h : e ∈ numE ts) : ∃ i t, ts[i]? = some t ∧ e = (t.1, t.2, .int (i : Nat)) := by
  obtain ⟨i, hi, rfl⟩ := List.mem_mapIdx.mp h
  exact ⟨i, ts[i], List.getElem?_eq_getElem hi, rfl⟩
theorem numE_some {ts : List WT} {i : Nat} {k : NestedKey} {b : Addr} (nd : (ts.map (·.1)).Nodup) (h : ts[i]? = some (k, b)) : getN (numE ts) k = some (.int (i : Nat)) := by
  cases e : getN (numE ts) k with
  | none =>
    exfalso
    have hi := (List.getElem?_eq_some_iff.mp h).1
    have := getN_none.mp e (k, b, .int (i : Nat)) (List.mem_mapIdx.mpr ⟨i, hi, by rw [List.getElem?_eq_getElem hi] at h; rw [Option.some.inj h]⟩)
    exact this rfl
  | some v =>
    obtain ⟨c, hc⟩ := getN_some e
    obtain ⟨j, t, ht, he⟩ := numE_mem hc
    have e1 : t.1 = k := (Prod.mk.inj he).1.symm
    have e2 : v = .int (j : Nat) := (Prod.mk.inj (Prod.mk.inj he).2).2
    have ij : i = j := by
      have a1 : (ts.map (·.1))[i]? = some k := by rw [List.getElem?_map, h]; rfl
      have a2 : (ts.map (·.1))[j]? = some k := by rw [List.getElem?_map, ht, ← e1]; rfl
      exact (List.getElem?_inj (List.getElem?_eq_some_iff.mp a1).1 nd).mp (a1.trans a2.symm)
    rw [e2, ij]
abbrev WayAt (H : Hp) : List Addr → List (Int × List Int) → Prop := Paired fun q e => ∃ bb, H q = some (.tup [.int e.1, .ref bb]) ∧ H bb = some (.tup (e.2.map V.int))
structure WalkAt (P : Program) (w : World) (C : Addr) (H : Hp) (p M N W : Addr) (ts : List WT) (wy : List (Int × List Int)) : Prop where
  ob : ∃ dx, H p = some (.ins C dx (wF M N W))
  met : H M = some (.lst (ts.map fun t => V.ref t.2))
  num : ND P w H N (numE ts)
  ways : ∃ ws, H W = some (.lst (ws.map V.ref)) ∧ WayAt H ws wy
  nd : (ts.map (·.1)).Nodup
  keys : ∀ t ∈ ts, KeyN H (.ref t.2) t.1
  len : wy.length = ts.length
  nMW : M ≠ W
theorem keyn_stay {H H' : Hp} (t : TupsStay H H') {y : V} {k : NestedKey} (h : KeyN H y k) : KeyN H' y k := ⟨nk_stay t _ _ h.1, h.2⟩
theorem WalkAt.stay {C : Addr} {H H' : Hp} {p M N W : Addr} {ts : List WT} {wy : List (Int × List Int)} (h : WalkAt P w C H p M N W ts wy) (t : TupsStay H H') (k : ∀ c o, (c = p ∨ c = M ∨ c = N ∨ c = W) → H c = some o → H' c = some o) : WalkAt P w C H' p M N W ts wy := by
  obtain ⟨⟨dx, ob⟩, met, num, ⟨ws, e1, e2⟩, nd, keys, len, ne⟩ := h
  exact ⟨⟨dx, k _ _ (.inl rfl) ob⟩, k _ _ (.inr (.inl rfl)) met, nd_stay num (k _ _ (.inr (.inr (.inl rfl))) num.ob) t, ⟨ws, k _ _ (.inr (.inr (.inr rfl))) e1, awMap (fun q e z => z.elim fun bb y => ⟨bb, t _ _ y.1, t _ _ y.2⟩) e2⟩, nd, fun x hx => keyn_stay t (keys x hx), len, ne⟩
theorem WalkAt.same {C : Addr} {H H' : Hp} {p M N W : Addr} {ts : List WT} {wy : List (Int × List Int)} (h : WalkAt P w C H p M N W ts wy) (s : Same H H') : WalkAt P w C H' p M N W ts wy := h.stay (Same.tups s) fun c o _ e => s c o e
def spWi (P : Program) (w : World) (C : Addr) : Sp := fun vs H Q _ => ∃ (p dx b : Addr) (k : NestedKey), vs = [.ref p, .ref b] ∧ H p = some (.ins C dx []) ∧ KeyN H (.ref b) k ∧
  ∀ H' M N W, WalkAt P w C H' p M N W [(k, b)] [(0, [])] → H M = none → H N = none → H W = none → (∀ c o, c ≠ p → H c = some o → H' c = some o) → Q .non H'
theorem ok_wi {f C : Addr} {fd : FuncData} {k : Nat} (F : Fun K "__init__" "Walk.__init__" sWalk___init__ f fd) (T : WCls K mg C) : FnOk P w K mg base CX0 (k + 1) f fd ["self", "first"] (spWi P w C) := by
  refine F.ok scWi (fun vs H Q E h => ?_) (fun cdv A outer s H vs Q E hr h => ?_)
  · obtain ⟨p, dx, b, k, rfl, _⟩ := h
    rfl
  · obtain ⟨p, dx, b, key, rfl, hp, hk, q⟩ := h
    refine ⟨_, pss_cons (ps_fld (pv 0) (pe_lst (pa_cons (pv 1) pa_nil)) rfl)
      (pss_cons (ps_fld (pv 0) (pe_ndisp (P := P) (w := w) rfl rfl hr.units (pv 1) pe_int) rfl)
      (pss_one (ps_fld (pv 0) (pe_lst (pa_cons (pe_tup (pa_cons pe_int (pa_cons (pe_tup pa_nil) pa_nil))) pa_nil)) rfl))), ?_⟩
    refine ⟨.ref b, rfl, by show 1 ≤ sizeLine; decide, fun M hM => ?_⟩
    have sM := same_new (o := .lst [.ref b]) hM
    have npM : p ≠ M := ne_of_none hp hM
    refine ⟨.ref p, rfl, p, C, dx, [], rfl, sM _ _ hp, T.cl, T.nM, (by show 0 < 1000; decide), ?_⟩
    -- the heap with met
    have t1 : TupsStay H (upd (upd H M (.lst [.ref b])) p (.ins C dx (putF "met" (.ref M) []))) := fun c xs e => by
      rw [upd_ne (ne_of e hp (fun z => nomatch z))]
      exact sM _ _ e
    have k1 : ∀ c o, c ≠ p → H c = some o → upd (upd H M (.lst [.ref b])) p (.ins C dx (putF "met" (.ref M) [])) c = some o := fun c o n e => by
      rw [upd_ne n]
      exact sM _ _ e
    have ep1 : upd (upd H M (.lst [.ref b])) p (.ins C dx (putF "met" (.ref M) [])) p = some (.ins C dx (putF "met" (.ref M) [])) := upd_same
    have eM1 : upd (upd H M (.lst [.ref b])) p (.ins C dx (putF "met" (.ref M) [])) M = some (.lst [.ref b]) := by
      rw [upd_ne npM.symm]
      exact upd_same
    generalize upd (upd H M (.lst [.ref b])) p (.ins C dx (putF "met" (.ref M) [])) = H1 at t1 k1 ep1 eM1
    intro N hN
    have sN := same_new (o := NDO P w N []) hN
    have npN : p ≠ N := ne_of_none ep1 hN
    have nMN : M ≠ N := ne_of_none eM1 hN
    refine ⟨.ref b, rfl, b, key, rfl, keyn_stay (t1.trans (Same.tups sN)) hk, upd_same, ?_⟩
    rw [upd_upd]
    have sN2 := same_new (o := NDO P w N [(key, b, .int 0)]) hN
    refine ⟨.ref p, rfl, p, C, dx, _, rfl, sN2 _ _ ep1, T.cl, T.nN, (by show 1 < 1000; decide), ?_⟩
    have k2 : ∀ c o, c ≠ p → H1 c = some o → upd (upd H1 N (NDO P w N [(key, b, .int 0)])) p (.ins C dx (putF "numbers" (.ref N) (putF "met" (.ref M) []))) c = some o := fun c o n e => by
      rw [upd_ne n]
      exact sN2 _ _ e
    have t2 : TupsStay H1 (upd (upd H1 N (NDO P w N [(key, b, .int 0)])) p (.ins C dx (putF "numbers" (.ref N) (putF "met" (.ref M) [])))) := fun c xs e => k2 c _ (ne_of e ep1 (fun z => nomatch z)) e
    have ep2 : upd (upd H1 N (NDO P w N [(key, b, .int 0)])) p (.ins C dx (putF "numbers" (.ref N) (putF "met" (.ref M) []))) p = some (.ins C dx (putF "numbers" (.ref N) (putF "met" (.ref M) []))) := upd_same
    have eN2 : upd (upd H1 N (NDO P w N [(key, b, .int 0)])) p (.ins C dx (putF "numbers" (.ref N) (putF "met" (.ref M) []))) N = some (NDO P w N [(key, b, .int 0)]) := by
      rw [upd_ne npN.symm]
      exact upd_same
    generalize upd (upd H1 N (NDO P w N [(key, b, .int 0)])) p (.ins C dx (putF "numbers" (.ref N) (putF "met" (.ref M) []))) = H2 at k2 t2 ep2 eN2
    have eM2 := k2 _ _ npM.symm eM1
    refine ⟨by show 0 ≤ sizeLine; decide, fun E0 hE0 => ⟨by show 2 ≤ sizeLine; decide, fun T0 hT0 => ⟨by show 1 ≤ sizeLine; decide, fun W hW => ?_⟩⟩⟩
    have s1 := same_new (o := .tup []) hE0
    have s2 := same_new (o := .tup [.int 0, .ref E0]) hT0
    have s3 := same_new (o := .lst [.ref T0]) hW
    have s123 := (s1.trans s2).trans s3
    have npW : p ≠ W := ne_of_none ((s1.trans s2) _ _ ep2) hW
    have nMW : M ≠ W := ne_of_none ((s1.trans s2) _ _ eM2) hW
    have nNW : N ≠ W := ne_of_none ((s1.trans s2) _ _ eN2) hW
    refine ⟨.ref p, rfl, p, C, dx, _, rfl, s123 _ _ ep2, T.cl, T.nW, (by show 2 < 1000; decide), ?_⟩
    have k3 : ∀ c o, c ≠ p → H2 c = some o → upd (upd (upd (upd H2 E0 (.tup [])) T0 (.tup [.int 0, .ref E0])) W (.lst [.ref T0])) p (.ins C dx (putF "ways" (.ref W) (putF "numbers" (.ref N) (putF "met" (.ref M) [])))) c = some o := fun c o n e => by
      rw [upd_ne n]
      exact s123 _ _ e
    have t3 : TupsStay H2 (upd (upd (upd (upd H2 E0 (.tup [])) T0 (.tup [.int 0, .ref E0])) W (.lst [.ref T0])) p (.ins C dx (putF "ways" (.ref W) (putF "numbers" (.ref N) (putF "met" (.ref M) []))))) := fun c xs e => k3 c _ (ne_of e ep2 (fun z => nomatch z)) e
    have tA := (t1.trans t2).trans t3
    refine q _ M N W ⟨⟨dx, upd_same⟩, k3 _ _ npM.symm eM2, ⟨k3 _ _ npN.symm eN2, fun e he => ?_⟩, ⟨[T0], ?_, .cons ⟨E0, ?_, ?_⟩ .nil⟩, by simp, fun x hx => ?_, rfl, nMW⟩ hM ?_ ?_ fun c o n e => k3 c o n (k2 c o n (k1 c o n e))
    · rw [List.mem_singleton.mp he]
      exact ⟨nk_stay tA _ _ hk.1, hk.2.1⟩
    · rw [upd_ne npW.symm]
      exact upd_same
    · have : T0 ≠ p := fun z => by rw [z] at hT0; rw [s1 _ _ ep2] at hT0; cases hT0
      rw [upd_ne this]
      exact s3 _ _ upd_same
    · have : E0 ≠ p := fun z => by rw [z, ep2] at hE0; cases hE0
      rw [upd_ne this]
      exact s3 _ _ (s2 _ _ upd_same)
    · rw [List.mem_singleton.mp hx]
      exact keyn_stay tA hk
    · cases e : H N with
      | none => rfl
      | some o =>
        by_cases z : N = p
        · exact absurd z npN.symm
        · rw [k1 _ _ z e] at hN
          cases hN
    · cases e : H W with
      | none => rfl
      | some o =>
        by_cases z : W = p
        · exact absurd z npW.symm
        · rw [(s1.trans s2) _ _ (k2 _ _ z (k1 _ _ z e))] at hW
          cases hW
def spWm (P : Program) (w : World) (C : Addr) : Sp := fun vs H Q _ => ∃ (p M N W b bb : Addr) (ts : List WT) (wy : List (Int × List Int)) (k : NestedKey) (ah : Int) (bs : List Int), vs = [.ref p, .ref b, .int ah, .ref bb] ∧ WalkAt P w C H p M N W ts wy ∧ KeyN H (.ref b) k ∧ H bb = some (.tup (bs.map V.int)) ∧ ts.length ≤ 1000000 ∧
  ∀ H' ts' wy' i, WalkAt P w C H' p M N W ts' wy' → (∃ b', ts'[i]? = some (k, b')) → ((ts' = ts ∧ wy' = wy) ∨ (ts' = ts ++ [(k, b)] ∧ wy' = wy ++ [(ah, bs)] ∧ i = ts.length ∧ ∀ t ∈ ts, t.1 ≠ k)) → (∀ c o, c ≠ M → c ≠ N → c ≠ W → H c = some o → H' c = some o) → Q (.int (i : Nat)) H'
theorem ok_wm {f C : Addr} {fd : FuncData} {k : Nat} (F : Fun K "meet" "Walk.meet" sWalk_meet f fd) (T : WCls K mg C) (mn : mg "len" = none) : FnOk P w K mg base CX0 (k + 1) f fd ["self", "thing", "ahead", "bits"] (spWm P w C) := by
  refine F.ok scWm (fun vs H Q E h => ?_) (fun cdv A outer s H vs Q E hr h => ?_)
  · obtain ⟨p, M, N, W, b, bb, ts, wy, k, ah, bs, rfl, _⟩ := h
    rfl
  · obtain ⟨p, M, N, W, b, bb, ts, wy, key, ah, bs, rfl, hw, hk, hbb, hl, q⟩ := h
    refine ⟨_, pss_mid (ps_if (pt_cmp (pc_ndnotin (P := P) (w := w) rfl rfl hr.units (pv 1) (pe_fld (pv 0) rfl)))
        (pss_cons (ps_ndput (P := P) (w := w) rfl rfl hr.units (pe_fld (pv 0) rfl) (pv 1) (pe_callB call_len_seq (by rfl) mn PySem.boot_len (pa_cons (pe_fld (pv 0) rfl) pa_nil)) rfl)
        (pss_cons (ps_expr (pe_bm PySem.F.plainAttrs_list PySem.F.slot_list_append PySem.F.type_list_append mt_append (pe_fld (pv 0) rfl) (pa_cons (pv 1) pa_nil)))
        (pss_one (ps_expr (pe_bm PySem.F.plainAttrs_list PySem.F.slot_list_append PySem.F.type_list_append mt_append (pe_fld (pv 0) rfl) (pa_cons (pe_tup (pa_cons (pv 2) (pa_cons (pv 3) pa_nil))) pa_nil)))))) pss_nil)
      (pss_one (ps_ret (pe_ndget (P := P) (w := w) rfl rfl hr.units (pe_fld (pv 0) rfl) (pv 1) (fun _ _ => rfl)))), ?_⟩
    obtain ⟨⟨dx, ob⟩, met, num, ⟨ws, ways, wat⟩, nd, keys, len, nMW⟩ := id hw
    have npM : p ≠ M := ne_of ob met (fun z => nomatch z)
    have npN : p ≠ N := ne_of ob num.ob (fun z => nomatch z)
    have npW : p ≠ W := ne_of ob ways (fun z => nomatch z)
    have nMN : M ≠ N := ne_of met num.ob (fun z => nomatch z)
    have nNW : N ≠ W := ne_of num.ob ways (fun z => nomatch z)
    have sl : (1000000 : Nat) < sizeLine := by rw [sizeLine_eq]; decide
    refine ⟨fun σ2 H2 => ∃ ts' wy' i, σ2 = [some (.ref p), some (.ref b), some (.int ah), some (.ref bb)] ∧ WalkAt P w C H2 p M N W ts' wy' ∧ (∃ b', ts'[i]? = some (key, b')) ∧ ((ts' = ts ∧ wy' = wy) ∨ (ts' = ts ++ [(key, b)] ∧ wy' = wy ++ [(ah, bs)] ∧ i = ts.length ∧ ∀ t ∈ ts, t.1 ≠ key)) ∧ (∀ c o, c ≠ M → c ≠ N → c ≠ W → H c = some o → H2 c = some o), ?_, ?_⟩
    · refine ⟨.ref b, rfl, .ref p, rfl, p, C, dx, _, _, rfl, ob, T.cl, T.nN, wF_num _ _ _, N, _, key, rfl, num, hk, _, rfl, ?_⟩
      cases e : getN (numE ts) key with
      | some v =>
        refine iteF ?_
        obtain ⟨c, hc⟩ := getN_some e
        obtain ⟨i, t, ht, he⟩ := numE_mem hc
        have e1 : t.1 = key := (Prod.mk.inj he).1.symm
        exact ⟨ts, wy, i, rfl, hw, ⟨t.2, by rw [ht, ← e1]⟩, .inl ⟨rfl, rfl⟩, fun c o _ _ _ z => z⟩
      | none =>
        refine iteT ?_
        have fresh : ∀ t ∈ ts, t.1 ≠ key := fun t ht z => by
          obtain ⟨i, hi⟩ := List.mem_iff_getElem?.mp ht
          have : ts[i]? = some (key, t.2) := by rw [hi, ← z]
          rw [numE_some nd this] at e
          cases e
        have nl : (numE ts).length < sizeLine := by rw [numE_len]; omega
        refine ⟨.ref p, rfl, p, C, dx, _, _, rfl, ob, T.cl, T.nM, wF_met _ _ _, M, _, rfl, .inl (.inl (.inl met)), .ref p, rfl, p, C, dx, _, _, rfl, ob, T.cl, T.nN, wF_num _ _ _, .ref b, rfl, N, _, key, b, rfl, num, rfl, hk, e, nl, ?_⟩
        have ml : ((ts.map fun t => V.ref t.2).length : Int) = ((ts.length : Nat) : Int) := by rw [List.length_map]
        rw [ml]
        have num1 := nd_put (v := .int ((ts.length : Nat) : Int)) num hk
        rw [← numE_snoc ts (key, b)] at num1 ⊢
        have k1 : ∀ c o, c ≠ N → H c = some o → upd H N (NDO P w N (numE (ts ++ [(key, b)]))) c = some o := fun c o n z => by
          rw [upd_ne n]
          exact z
        have t1 : TupsStay H (upd H N (NDO P w N (numE (ts ++ [(key, b)])))) := fun c xs z => k1 c _ (ne_of z num.ob (fun y => nomatch y)) z
        generalize upd H N (NDO P w N (numE (ts ++ [(key, b)]))) = H1 at num1 k1 t1
        have ob1 := k1 _ _ npN ob
        have met1 := k1 _ _ nMN met
        refine ⟨.ref p, rfl, p, C, dx, _, _, rfl, ob1, T.cl, T.nM, wF_met _ _ _, .inl ⟨rfl, _, .inl (.inl met1)⟩, .ref b, rfl, M, _, _, rfl, rfl, met1, ?_, ?_⟩
        · rw [List.length_map]
          omega
        have e2 : (ts.map fun t => V.ref t.2) ++ [V.ref b] = (ts ++ [(key, b)]).map fun t => V.ref t.2 := by rw [List.map_append]; rfl
        rw [e2]
        have k2 : ∀ c o, c ≠ M → H1 c = some o → upd H1 M (.lst ((ts ++ [(key, b)]).map fun t => V.ref t.2)) c = some o := fun c o n z => by
          rw [upd_ne n]
          exact z
        have t2 : TupsStay H1 (upd H1 M (.lst ((ts ++ [(key, b)]).map fun t => V.ref t.2))) := fun c xs z => k2 c _ (ne_of z met1 (fun y => nomatch y)) z
        have met2 : upd H1 M (.lst ((ts ++ [(key, b)]).map fun t => V.ref t.2)) M = some (.lst ((ts ++ [(key, b)]).map fun t => V.ref t.2)) := upd_same
        generalize upd H1 M (.lst ((ts ++ [(key, b)]).map fun t => V.ref t.2)) = H2 at k2 t2 met2
        have ob2 := k2 _ _ npM ob1
        have ways2 := k2 _ _ nMW.symm (k1 _ _ nNW.symm ways)
        refine ⟨.ref p, rfl, p, C, dx, _, _, rfl, ob2, T.cl, T.nW, wF_ways _ _ _, .inl ⟨rfl, _, .inl (.inl ways2)⟩, .int ah, rfl, .ref bb, rfl, by show 2 ≤ sizeLine; decide, fun U hU => ?_⟩
        have sU := same_new (o := .tup [.int ah, .ref bb]) hU
        have wl := awLen wat
        refine ⟨W, _, _, rfl, rfl, sU _ _ ways2, ?_, ?_⟩
        · rw [List.length_map]
          omega
        have e3 : ws.map V.ref ++ [V.ref U] = (ws ++ [U]).map V.ref := by rw [List.map_append]; rfl
        rw [e3]
        have k3 : ∀ c o, c ≠ W → H2 c = some o → upd (upd H2 U (.tup [.int ah, .ref bb])) W (.lst ((ws ++ [U]).map V.ref)) c = some o := fun c o n z => by
          rw [upd_ne n]
          exact sU _ _ z
        have t3 : TupsStay H2 (upd (upd H2 U (.tup [.int ah, .ref bb])) W (.lst ((ws ++ [U]).map V.ref))) := fun c xs z => k3 c _ (ne_of z ways2 (fun y => nomatch y)) z
        have tA := (t1.trans t2).trans t3
        have nUW : U ≠ W := fun z => by rw [z, ways2] at hU; cases hU
        have eU3 : upd (upd H2 U (.tup [.int ah, .ref bb])) W (.lst ((ws ++ [U]).map V.ref)) U = some (.tup [.int ah, .ref bb]) := by
          rw [upd_ne nUW]
          exact upd_same
        have eW3 : upd (upd H2 U (.tup [.int ah, .ref bb])) W (.lst ((ws ++ [U]).map V.ref)) W = some (.lst ((ws ++ [U]).map V.ref)) := upd_same
        generalize upd (upd H2 U (.tup [.int ah, .ref bb])) W (.lst ((ws ++ [U]).map V.ref)) = H3 at k3 t3 tA eU3 eW3
        refine ⟨ts ++ [(key, b)], wy ++ [(ah, bs)], ts.length, rfl, ⟨⟨dx, k3 _ _ npW ob2⟩, k3 _ _ nMW met2, nd_stay num1 (k3 _ _ nNW (k2 _ _ nMN.symm num1.ob)) (t2.trans t3), ⟨ws ++ [U], eW3, ?_⟩, ?_, fun x hx => ?_, ?_, nMW⟩, ⟨b, ?_⟩, .inr ⟨rfl, rfl, rfl, fresh⟩, fun c o n1 n2 n3 z => k3 _ _ n3 (k2 _ _ n1 (k1 _ _ n2 z))⟩
        · exact awSnoc (F := fun (q : Addr) (e : Int × List Int) => ∃ bb, H3 q = some (.tup [.int e.1, .ref bb]) ∧ H3 bb = some (.tup (e.2.map V.int))) ⟨bb, eU3, tA _ _ hbb⟩ (awMap (fun q e z => z.elim fun bb y => ⟨bb, tA _ _ y.1, tA _ _ y.2⟩) wat)
        · rw [List.map_append, List.nodup_append]
          refine ⟨nd, by simp, fun x hx y hy => ?_⟩
          obtain ⟨t, ht, rfl⟩ := List.mem_map.mp hx
          rw [List.mem_singleton.mp hy]
          exact fresh t ht
        · rcases List.mem_append.mp hx with hx | hx
          · exact keyn_stay tA (keys x hx)
          · rw [List.mem_singleton.mp hx]
            exact keyn_stay tA hk
        · rw [List.length_append, List.length_append, len]
          rfl
        · rw [List.getElem?_append_right (Nat.le_refl _), Nat.sub_self]
          rfl
    · rintro σ2 H2 ⟨ts', wy', i, rfl, hw2, ⟨b', hb'⟩, hcase, kp⟩
      obtain ⟨⟨dx2, ob2⟩, _, num2, _, nd2, _⟩ := id hw2
      have tS : TupsStay H H2 := fun c xs z => kp c _ (ne_of z met (fun y => nomatch y)) (ne_of z num.ob (fun y => nomatch y)) (ne_of z ways (fun y => nomatch y)) z
      exact ⟨.ref p, rfl, p, C, dx2, _, _, rfl, ob2, T.cl, T.nN, wF_num _ _ _, .ref b, rfl, N, _, key, .int (i : Nat), rfl, num2, keyn_stay tS hk, numE_some nd2 hb', q H2 ts' wy' i hw2 ⟨b', hb'⟩ hcase kp⟩
section lz
variable {A : Around} {E : Value → Shared → Prop} {s : Shared}
abbrev IsZ (h : Heap) (z TI TO : Addr) (f0 : Value) (b : Bool) : Prop := h.get? z = some { cls := .type "zip", dict := none, data := .fields #[f0, .bool b, .bool false, .ref TI, .ref TO], slots := #[] }
theorem z_free {z TI TO T : Addr} {f : Bool} {oT : Obj} {Q : Bool → Shared → Prop} (hz : IsZ s.heap z TI TO (rawInt T) f) (hT : s.heap.get? T = some oT) (q : ∀ h', IsZ h' z TI TO (rawInt T) true → Heap.SameBut z s.heap h' → Q false { s with heap := h' }) :
    wpAny (model P w) A (Builtin.SmallTypes.ownedTupleIsFree (.ref z)) Q E s := by
  unfold Builtin.SmallTypes.ownedTupleIsFree
  apply wpAny_bind
  refine wpAny_field hz rfl (x := rawInt T) rfl ?_
  show wpAny _ _ (loadIfAlive ((T : Int).toNat) >>= _) _ _ _
  rw [Int.toNat_natCast]
  apply wpAny_bind
  refine PySem.W.kdx_alive hT ?_
  simp only [Option.isNone_some, Bool.false_eq_true, if_false]
  apply wpAny_bind
  refine wpAny_field hz rfl (x := .bool f) rfl ?_
  cases f with
  | true =>
    rw [if_neg (show ¬ ((Value.bool true != Value.bool true) = true) from Bool.false_ne_true)]
    exact wpAny_pure (q s.heap hz (Heap.SameBut.refl _ _))
  | false =>
    rw [if_pos (show (Value.bool false != Value.bool true) = true from rfl)]
    apply wpAny_bind
    exact wpAny_setField_rec hz (by simp) fun h' hz' hs' => wpAny_pure (q h' hz' hs')
theorem z_next_out {z TI TO i1 i2 l1 l2 T : Addr} {k1 k2 : Nat} {xs ys : Array Value} {x y : Value} {f : Bool} {oT : Obj} {Q : Value → Shared → Prop} (D : ZipApart z TI TO i1 i2 l1 l2) (hz : IsZ s.heap z TI TO (rawInt T) f) (hT : s.heap.get? T = some oT)
    (hTI : IsPair s.heap TI (.ref i1) (.ref i2)) (h1 : s.heap.IsListIter i1 l1 k1) (h2 : s.heap.IsListIter i2 l2 k2) (hl1 : s.heap.IsList l1 xs) (hl2 : s.heap.IsList l2 ys) (hx : xs[k1]? = some x) (hy : ys[k2]? = some y)
    (q : ∀ h', IsZ h' z TI TO (rawInt T) true → h'.IsListIter i1 l1 (k1 + 1) → h'.IsListIter i2 l2 (k2 + 1) → IsPair h' s.heap.objs.size x y → h'.objs.size = s.heap.objs.size + 1 → (∀ c o, c ≠ z → c ≠ i1 → c ≠ i2 → s.heap.get? c = some o → h'.get? c = some o) → Q (.ref s.heap.objs.size) { s with heap := h' }) :
    wpAny (model P w) A (Builtin.«zip.__next__» ⟨[.ref z], []⟩) (fun fin s' => ∃ v, fin = .done (.ret v) ∧ Q v s') E s := by
  show wpAny _ _ (field (.ref z) 2 >>= _) _ _ _
  apply wpAny_bind
  refine wpAny_field hz rfl (x := .bool false) rfl ?_
  show wpAny _ _ (field (.ref z) 3 >>= _) _ _ _
  apply wpAny_bind
  refine wpAny_field hz rfl (x := .ref TI) rfl ?_
  apply wpAny_bind
  refine wpAny_seqItems hTI rfl ?_
  show wpAny _ _ (Builtin.SmallTypes.ownedTupleIsFree (.ref z) >>= _) _ _ _
  apply wpAny_bind
  refine z_free hz hT fun h₁ hz₁ hs₁ => ?_
  simp only [Bool.false_eq_true, if_false]
  apply wpAny_bind
  simp only [← Array.forIn_toList, List.forIn_cons, List.forIn_nil]
  apply wpAny_bind
  apply wpAny_bind
  apply wpAny_holding
  show wpAny _ _ (Builtin.SmallTypes.nextOf (.ref i1) >>= _) _ _ _
  apply wpAny_bind
  refine wpAny_nextOf_list_item (h1.extBut hs₁.extBut D.i1z) (hl1.extBut hs₁.extBut D.l1z) hx fun h₂ h1₂ hs₂ => wpAny_pure ?_
  refine wpAny_pure ?_
  apply wpAny_bind
  apply wpAny_bind
  apply wpAny_holding
  show wpAny _ _ (Builtin.SmallTypes.nextOf (.ref i2) >>= _) _ _ _
  apply wpAny_bind
  refine wpAny_nextOf_list_item ((h2.extBut hs₁.extBut D.i2z).extBut hs₂.extBut D.i12.symm) ((hl2.extBut hs₁.extBut D.l2z).extBut hs₂.extBut D.l2i1) hy fun h₃ h2₃ hs₃ => wpAny_pure ?_
  refine wpAny_pure (wpAny_pure ?_)
  have hsz : h₃.objs.size = s.heap.objs.size := by rw [hs₃.1, hs₂.1, hs₁.1]
  apply wpAny_bind
  refine wpAny_newTuple ?_ (by show 2 ≤ sizeLine; decide)
  have z3 : IsZ h₃ z TI TO (rawInt T) true := hs₃.extBut _ _ D.i2z.symm (hs₂.extBut _ _ D.i1z.symm hz₁)
  refine wpAny_pure ⟨_, rfl, ?_⟩
  show Q (.ref h₃.objs.size) _
  rw [hsz]
  refine q _ (Heap.get?_push_of_some _ z3) ((h1₂.extBut hs₃.extBut D.i12).at fun o e => Heap.get?_push_of_some _ e) (h2₃.at fun o e => Heap.get?_push_of_some _ e) ?_ ?_ fun c o c1 c2 c3 e => Heap.get?_push_of_some _ (hs₃.extBut _ _ c3 (hs₂.extBut _ _ c2 (hs₁.extBut _ _ c1 e)))
  · rw [← hsz]
    exact Heap.get?_push_size _ rfl
  · rw [Heap.size_push, hsz]
theorem z_pyNext_out {z TI TO i1 i2 l1 l2 T : Addr} {k1 k2 : Nat} {xs ys : Array Value} {x y : Value} {f : Bool} {oT : Obj} {Q : Option Value → Shared → Prop} (D : ZipApart z TI TO i1 i2 l1 l2) (hz : IsZ s.heap z TI TO (rawInt T) f) (hT : s.heap.get? T = some oT)
    (hTI : IsPair s.heap TI (.ref i1) (.ref i2)) (h1 : s.heap.IsListIter i1 l1 k1) (h2 : s.heap.IsListIter i2 l2 k2) (hl1 : s.heap.IsList l1 xs) (hl2 : s.heap.IsList l2 ys) (hx : xs[k1]? = some x) (hy : ys[k2]? = some y)
    (q : ∀ h', IsZ h' z TI TO (rawInt T) true → h'.IsListIter i1 l1 (k1 + 1) → h'.IsListIter i2 l2 (k2 + 1) → IsPair h' s.heap.objs.size x y → h'.objs.size = s.heap.objs.size + 1 → (∀ c o, c ≠ z → c ≠ i1 → c ≠ i2 → s.heap.get? c = some o → h'.get? c = some o) → Q (some (.ref s.heap.objs.size)) { s with heap := h' }) :
    wpAny (model P w) A (pyNext (.ref z)) Q E s := by
  have ty : s.TypeIs (.ref z) "zip" := ⟨_, hz, rfl⟩
  unfold pyNext
  apply wpAny_bind
  apply wpAny_attempt
  refine wpAny_callSpecial?_slot (name := Str.ofString "__next__") ty F.slot_zip_next ?_
  refine wpAny_call_entry F.slot_zip_next ty F.entry_zip_next ?_ (F.args_zip_next_1 _)
  exact z_next_out D hz hT hTI h1 h2 hl1 hl2 hx hy fun h' a1 a2 a3 a4 a5 a6 => wpAny_pure (q h' a1 a2 a3 a4 a5 a6)
theorem z_end_out {z TI TO i1 i2 l1 l2 T : Addr} {k1 : Nat} {xs : Array Value} {f : Bool} {oT : Obj} {Q : Option Value → Shared → Prop} (hh : A.handled = none) (D : ZipApart z TI TO i1 i2 l1 l2) (hz : IsZ s.heap z TI TO (rawInt T) f) (hT : s.heap.get? T = some oT)
    (hTI : IsPair s.heap TI (.ref i1) (.ref i2)) (h1 : s.heap.IsListIter i1 l1 k1) (hl1 : s.heap.IsList l1 xs) (hx : xs[k1]? = none)
    (q : ∀ h', (∀ c o, c ≠ z → c ≠ i1 → s.heap.get? c = some o → h'.get? c = some o) → Q none { s with heap := h' }) :
    wpAny (model P w) A (pyNext (.ref z)) Q E s := by
  have ty : s.TypeIs (.ref z) "zip" := ⟨_, hz, rfl⟩
  unfold pyNext
  apply wpAny_bind
  apply wpAny_attempt
  refine wpAny_callSpecial?_slot (name := Str.ofString "__next__") ty F.slot_zip_next ?_
  refine wpAny_call_entry F.slot_zip_next ty F.entry_zip_next ?_ (F.args_zip_next_1 _)
  show wpAny _ _ (field (.ref z) 2 >>= _) _ _ _
  apply wpAny_bind
  refine wpAny_field hz rfl (x := .bool false) rfl ?_
  show wpAny _ _ (field (.ref z) 3 >>= _) _ _ _
  apply wpAny_bind
  refine wpAny_field hz rfl (x := .ref TI) rfl ?_
  apply wpAny_bind
  refine wpAny_seqItems hTI rfl ?_
  show wpAny _ _ (Builtin.SmallTypes.ownedTupleIsFree (.ref z) >>= _) _ _ _
  apply wpAny_bind
  refine z_free hz hT fun h₁ hz₁ hs₁ => ?_
  simp only [Bool.false_eq_true, if_false]
  apply wpAny_bind
  simp only [← Array.forIn_toList, List.forIn_cons, List.forIn_nil]
  apply wpAny_bind
  apply wpAny_bind
  apply wpAny_holding
  show wpAny _ _ (Builtin.SmallTypes.nextOf (.ref i1) >>= _) _ _ _
  apply wpAny_bind
  refine wpAny_nextOf_list_end hh (h1.extBut hs₁.extBut D.i1z) (hl1.extBut hs₁.extBut D.l1z) hx fun h₂ e hs₂ he => ?_
  obtain ⟨o, ho, hc⟩ := he
  apply wpAny_bind
  refine wpAny_isInstance (T := "StopIteration") (b := true) ⟨o, ho, hc⟩ isSubtype_stop ?_
  exact wpAny_pure (q h₂ fun c o c1 c2 e => hs₂ c o c2 (hs₁.extBut c o c1 e))
/-- the pairs that were made -/
structure MadeZ (xs ys : Array Value) (lo : Addr) (h : Heap) (as : List Addr) : Prop where
  rise : as.Pairwise (· < ·)
  above : ∀ a ∈ as, lo < a
  pairs : ∀ (j : Nat) a, as[j]? = some a → ∃ x y, xs[j]? = some x ∧ ys[j]? = some y ∧ IsPair h a x y
/-- where the zip stands -/
def ZAt (h : Heap) (z TI TO i1 i2 : Addr) (l1 l2 : Addr) (i : Nat) (as : List Addr) : Prop := IsPair h TI (.ref i1) (.ref i2) ∧ (∃ a b, IsPair h TO a b) ∧ h.IsListIter i1 l1 i ∧ h.IsListIter i2 l2 i ∧
  ((i = 0 ∧ IsZ h z TI TO .none false) ∨ ∃ T f, T ∈ as ∧ IsZ h z TI TO (rawInt T) f)
theorem z_loop {S z TI TO i1 i2 l1 l2 : Addr} {xs ys : Array Value} (hh : A.handled = none) (D : ZipApart z TI TO i1 i2 l1 l2) (hxy : xs.size = ys.size) (hSz : S ≠ z) (hSI : S ≠ TI) (hSO : S ≠ TO) (hS1 : S ≠ i1) (hS2 : S ≠ i2) (hSa : S ≠ l1) (hSb : S ≠ l2)
    (lo : Addr) (hlo : z ≤ lo ∧ TI ≤ lo ∧ TO ≤ lo ∧ i1 ≤ lo ∧ i2 ≤ lo ∧ S ≤ lo) (hn : xs.size ≤ sizeLine) (res : Value) {h₁ : Heap} {R : Result → Shared → Prop}
    (hR : ∀ h' tk acc c as, (∀ b o, b ≠ S → b ≠ z → b ≠ TO → b ≠ i1 → b ≠ i2 → h₁.get? b = some o → h'.get? b = some o) → h'.get? S = some { cls := .type "list", dict := none, data := .seq acc c, slots := #[] } → as.length = xs.size → MadeZ xs ys lo h' as →
      acc.toList = as.map Value.ref → R (.ok (.ret res)) { s with heap := h', toks := tk }) :
    ∀ (k i : Nat) (h : Heap) (tk c : Nat) (acc : Array Value) (as : List Addr), xs.size - i = k → i ≤ xs.size → ZAt h z TI TO i1 i2 l1 l2 i as → h.IsList l1 xs → h.IsList l2 ys → (∀ b o, b ≠ S → b ≠ z → b ≠ TO → b ≠ i1 → b ≠ i2 → h₁.get? b = some o → h.get? b = some o) →
      h.get? S = some { cls := .type "list", dict := none, data := .seq acc c, slots := #[] } → acc.toList = as.map Value.ref → as.length = i → MadeZ xs ys lo h as → lo < h.objs.size →
      codeAny (model P w) A (.builtin "list.extend.loop" ⟨[.ref S, .ref z, res], []⟩) R { s with heap := h, toks := tk } := by
  have far : ∀ u : Addr, lo < u → u ≠ z ∧ u ≠ TO ∧ u ≠ i1 ∧ u ≠ i2 ∧ u ≠ S := fun u hu => ⟨Nat.ne_of_gt (Nat.lt_of_le_of_lt hlo.1 hu), Nat.ne_of_gt (Nat.lt_of_le_of_lt hlo.2.2.1 hu), Nat.ne_of_gt (Nat.lt_of_le_of_lt hlo.2.2.2.1 hu), Nat.ne_of_gt (Nat.lt_of_le_of_lt hlo.2.2.2.2.1 hu), Nat.ne_of_gt (Nat.lt_of_le_of_lt hlo.2.2.2.2.2 hu)⟩
  intro k
  induction k with
  | zero =>
    intro i h tk c acc as hk hi hz hl1 hl2 keep hS hacc hal hG hls
    obtain ⟨hTI, ⟨a, b, hTO⟩, g1, g2, st⟩ := hz
    have xe : xs[i]? = none := Array.getElem?_eq_none (by omega)
    have fin : ∀ h', (∀ c o, c ≠ z → c ≠ TO → c ≠ i1 → c ≠ i2 → h.get? c = some o → h'.get? c = some o) → R (.ok (.ret res)) { s with heap := h', toks := tk } := fun h' kp => by
      refine hR h' tk acc c as (fun b o n1 n2 n3 n4 n5 e => kp b o n2 n3 n4 n5 (keep b o n1 n2 n3 n4 n5 e)) (kp S _ hSz hSO hS1 hS2 hS) (by omega) ⟨hG.rise, hG.above, fun j a hj => ?_⟩ hacc
      obtain ⟨x, y, e1, e2, e3⟩ := hG.pairs j a hj
      obtain ⟨f1, f2, f3, f4, _⟩ := far a (hG.above a (List.mem_of_getElem? hj))
      exact ⟨x, y, e1, e2, kp a _ f1 f2 f3 f4 e3⟩
    refine codeAny_builtin F.entry_extend_loop ?_
    rw [Around.under_plainId F.plain_extend_loop _]
    show wpAny _ A.in1 (pyNext (.ref z) >>= _) _ _ _
    apply wpAny_bind
    rcases st with ⟨rfl, hz0⟩ | ⟨T, f, hT, hz1⟩
    · exact wpAny_pyNext_zip_end (s := { s with heap := h, toks := tk }) (A := A.in1) hh D hz0 hTI hTO g1 g2 hl1 hl2 (.inl xe) fun h' kp => wpAny_pure (fin h' kp)
    · obtain ⟨j, hj⟩ := List.mem_iff_getElem?.mp hT
      obtain ⟨x, y, _, _, e3⟩ := hG.pairs j T hj
      exact z_end_out (s := { s with heap := h, toks := tk }) (A := A.in1) hh D hz1 e3 hTI g1 hl1 xe fun h' kp => wpAny_pure (fin h' fun c o n1 _ n3 _ e => kp c o n1 n3 e)
  | succ k ih =>
    intro i h tk c acc as hk hi hz hl1 hl2 keep hS hacc hal hG hls
    obtain ⟨hTI, ⟨a, b, hTO⟩, g1, g2, st⟩ := hz
    have hlt : i < xs.size := by omega
    have hx := Array.getElem?_eq_getElem hlt
    have hy := Array.getElem?_eq_getElem (show i < ys.size by omega)
    have hsz : acc.size = i := by rw [← Array.length_toList, hacc, List.length_map, hal]
    have hSl : S < h.objs.size := Heap.lt_size hS
    refine codeAny_builtin F.entry_extend_loop ?_
    rw [Around.under_plainId F.plain_extend_loop _]
    show wpAny _ A.in1 (pyNext (.ref z) >>= _) _ _ _
    apply wpAny_bind
    -- one more pair
    have more : ∀ (h' : Heap) (f : Bool) (T : Addr), T ∈ as ++ [h.objs.size] → IsZ h' z TI TO (rawInt T) f → (∃ a b, IsPair h' TO a b) → h'.IsListIter i1 l1 (i + 1) → h'.IsListIter i2 l2 (i + 1) → IsPair h' h.objs.size xs[i] (ys[i]'(by omega)) → h'.objs.size = h.objs.size + 1 →
        (∀ c o, c ≠ z → c ≠ TO → c ≠ i1 → c ≠ i2 → h.get? c = some o → h'.get? c = some o) →
        wpAny (model P w) A.in1 (updateSeq S (·.push (Value.ref h.objs.size)) >>= fun _ => again (.builtin "list.extend.loop" ⟨[.ref S, .ref z, res], []⟩)) (fun fin s' => match fin with | .done f => R (.ok f) s' | .again c' => c'.quiet = true ∧ codeAny (model P w) A c' R s') (fun e s' => R (.error e) s') { s with heap := h', toks := tk } := by
      intro h' f T hT hz' hTO' g1' g2' hp hsz' kp
      have hS' := kp S _ hSz hSO hS1 hS2 hS
      have up : ∀ b o, b ≠ S → h'.get? b = some o → (h'.update S (Obj.mapSeq (·.push (Value.ref h.objs.size)))).get? b = some o := fun b o hb e => (Heap.get?_update_other _ _ (Ne.symm hb)).trans e
      apply wpAny_bind
      refine wpAny_updateSeq hS' rfl (wpAny_pure ⟨plainId_quiet F.plain_extend_loop _, ?_⟩) (by rw [hsz]; omega) (by show (acc.push (Value.ref h.objs.size)).size ≤ sizeLine + 1; rw [Array.size_push, hsz]; omega)
      refine ih (i + 1) _ tk _ (acc.push (Value.ref h.objs.size)) (as ++ [h.objs.size]) (by omega) hlt ?_ ?_ ?_ (fun b o n1 n2 n3 n4 n5 e => up b o n1 (kp b o n2 n3 n4 n5 (keep b o n1 n2 n3 n4 n5 e))) (Heap.get?_update_self _ hS' rfl) (by rw [Array.toList_push, hacc, List.map_append]; rfl) (by rw [List.length_append, hal]; rfl) ⟨?_, ?_, ?_⟩ ?_
      · obtain ⟨p, q, hpq⟩ := hTO'
        exact ⟨up _ _ hSI.symm (kp _ _ D.TIz D.TITO D.TIi1 D.TIi2 hTI), ⟨p, q, up _ _ hSO.symm hpq⟩, g1'.at fun o e => up _ o hS1.symm e, g2'.at fun o e => up _ o hS2.symm e, .inr ⟨T, f, hT, up _ _ hSz.symm hz'⟩⟩
      · exact hl1.at fun o e => up _ o hSa.symm (kp _ o D.l1z D.l1TO D.l1i1 D.l1i2 e)
      · exact hl2.at fun o e => up _ o hSb.symm (kp _ o D.l2z D.l2TO D.l2i1 D.l2i2 e)
      · refine List.pairwise_append.mpr ⟨hG.rise, List.pairwise_singleton _ _, fun u hu v hv => ?_⟩
        rw [List.mem_singleton.mp hv]
        obtain ⟨j, hj⟩ := List.mem_iff_getElem?.mp hu
        obtain ⟨_, _, _, _, e3⟩ := hG.pairs j u hj
        exact Heap.lt_size e3
      · intro u hu
        rcases List.mem_append.mp hu with hu | hu
        · exact hG.above u hu
        · rw [List.mem_singleton.mp hu]
          exact hls
      · intro j u hj
        by_cases hjl : j < as.length
        · rw [List.getElem?_append_left hjl] at hj
          obtain ⟨x, y, e1, e2, e3⟩ := hG.pairs j u hj
          obtain ⟨f1, f2, f3, f4, f5⟩ := far u (hG.above u (List.mem_of_getElem? hj))
          exact ⟨x, y, e1, e2, up u _ f5 (kp u _ f1 f2 f3 f4 e3)⟩
        · rw [List.getElem?_append_right (by omega)] at hj
          have hj2 := (List.getElem?_eq_some_iff.mp hj).1
          have ej : j = as.length := by
            simp only [List.length_cons, List.length_nil] at hj2
            omega
          subst ej
          rw [Nat.sub_self] at hj
          obtain rfl := Option.some.inj hj
          subst hal
          exact ⟨_, _, hx, hy, up _ _ (Nat.ne_of_gt hSl) hp⟩
      · have e := up _ _ (Nat.ne_of_gt hSl) hp
        exact Nat.lt_trans hls (Heap.lt_size e)
    rcases st with ⟨rfl, hz0⟩ | ⟨T, f, hT, hz1⟩
    · refine wpAny_pyNext_zip_item (s := { s with heap := h, toks := tk }) (A := A.in1) D hz0 hTI hTO g1 g2 hl1 hl2 hx hy fun h' b1 b2 b3 b4 b5 b6 b7 => ?_
      exact more h' false h.objs.size (List.mem_append_right _ List.mem_cons_self) b1 ⟨_, _, b2⟩ b3 b4 b5 b6 b7
    · obtain ⟨j, hj⟩ := List.mem_iff_getElem?.mp hT
      obtain ⟨x, y, _, _, e3⟩ := hG.pairs j T hj
      refine z_pyNext_out (s := { s with heap := h, toks := tk }) (A := A.in1) D hz1 e3 hTI g1 g2 hl1 hl2 hx hy fun h' b1 b2 b3 b4 b5 b6 => ?_
      exact more h' true T (List.mem_append_left _ hT) b1 ⟨_, _, b6 _ _ D.TOz D.TOi1 D.TOi2 hTO⟩ b2 b3 b4 b5 fun c o n1 _ n3 n4 e => b6 c o n1 n3 n4 e
theorem z_nolen : typeLookup (.type "zip") "__len__" = pure none := by
  rw [typeLookup_type, builtinLookup_eq_fast]
  kernel_rfl
theorem z_nohint : typeLookup (.type "zip") "__length_hint__" = pure none := by
  rw [typeLookup_type, builtinLookup_eq_fast]
  kernel_rfl
theorem z_hint {z : Addr} {Q : Bool → Shared → Prop} (hT : s.TypeIs (.ref z) "zip") (q : Q true s) : wpAny (model P w) A (Builtin.List.listLengthHint (.ref z)) Q E s := by
  unfold Builtin.List.listLengthHint
  apply wpAny_bind
  refine wpAny_specialOf hT z_nolen ?_
  refine wpAny_ite_split (fun h => absurd h (by decide)) (fun _ => ?_)
  refine wpAny_ite_split (fun h => absurd h (by decide)) (fun _ => ?_)
  apply wpAny_bind
  refine wpAny_specialOf hT z_nohint ?_
  exact wpAny_pure q
theorem z_extend {S z TI TO i1 i2 l1 l2 : Addr} {xs ys : Array Value} (hh : A.handled = none) (D : ZipApart z TI TO i1 i2 l1 l2) (hxy : xs.size = ys.size) (hSz : S ≠ z) (hSI : S ≠ TI) (hSO : S ≠ TO) (hS1 : S ≠ i1) (hS2 : S ≠ i2) (hSa : S ≠ l1) (hSb : S ≠ l2)
    (lo : Addr) (hlo : z ≤ lo ∧ TI ≤ lo ∧ TO ≤ lo ∧ i1 ≤ lo ∧ i2 ≤ lo ∧ S ≤ lo) (hls : lo < s.heap.objs.size) (hn : xs.size ≤ sizeLine) (res : Value) {R : Result → Shared → Prop} {c₀ : Nat}
    (hz : ZAt s.heap z TI TO i1 i2 l1 l2 0 []) (hz0 : IsZ s.heap z TI TO .none false) (hl1 : s.heap.IsList l1 xs) (hl2 : s.heap.IsList l2 ys) (hS : s.heap.get? S = some { cls := .type "list", data := .seq #[] c₀ })
    (hR : ∀ h' tk acc c as, (∀ b o, b ≠ S → b ≠ z → b ≠ TO → b ≠ i1 → b ≠ i2 → s.heap.get? b = some o → h'.get? b = some o) → h'.get? S = some { cls := .type "list", dict := none, data := .seq acc c, slots := #[] } → as.length = xs.size → MadeZ xs ys lo h' as →
      acc.toList = as.map Value.ref → R (.ok (.ret res)) { s with heap := h', toks := tk }) :
    wpAny (model P w) A.in1 (Builtin.List.listExtendWith (.ref S) (.ref z) res)
      (fun fin s' => match fin with | .done f => R (.ok f) s' | .again c' => c'.quiet = true ∧ codeAny (model P w) A c' R s') (fun e s' => R (.error e) s') s := by
  have ty : s.TypeIs (.ref z) "zip" := ⟨_, hz0, rfl⟩
  have go : ∀ (h : Heap) (c₁ tk : Nat), (∀ b o, b ≠ S → s.heap.get? b = some o → h.get? b = some o) → lo < h.objs.size → h.get? S = some { cls := .type "list", data := .seq #[] c₁ } →
      codeAny (model P w) A (.builtin "list.extend.loop" ⟨[.ref S, .ref z, res], []⟩) R { s with heap := h, toks := tk } := by
    intro h c₁ tk kp hl hS₁
    obtain ⟨hTI, ⟨a, b, hTO⟩, g1, g2, _⟩ := hz
    refine z_loop (s := s) (h₁ := s.heap) hh D hxy hSz hSI hSO hS1 hS2 hSa hSb lo hlo hn res hR xs.size 0 h tk c₁ #[] [] (Nat.sub_zero _) (Nat.zero_le _) ?_ (hl1.at fun o e => kp _ o hSa.symm e) (hl2.at fun o e => kp _ o hSb.symm e) (fun b o n1 _ _ _ _ e => kp b o n1 e) hS₁ rfl rfl ⟨List.Pairwise.nil, (fun _ z => nomatch z), (fun j a hj => by simp at hj)⟩ hl
    exact ⟨kp _ _ hSI.symm hTI, ⟨a, b, kp _ _ hSO.symm hTO⟩, g1.at fun o e => kp _ o hS1.symm e, g2.at fun o e => kp _ o hS2.symm e, .inl ⟨rfl, kp _ _ hSz.symm hz0⟩⟩
  unfold Builtin.List.listExtendWith
  apply wpAny_bind
  refine wpAny_typeOf (T := "zip") ty ?_
  have e1 : Builtin.List.listSameRef (.ref S) (.ref z) = false := by simp [Builtin.List.listSameRef, hSz]
  have e2 : (Value.type "zip" == Value.type "list") = false := by decide
  have e3 : (Value.type "zip" == Value.type "tuple") = false := by decide
  simp only [e1, e2, e3, Bool.or_false, Bool.false_eq_true, if_false]
  apply wpAny_bind
  refine wpAny_pyIter_slot ty F.slot_zip_iter ?_
  refine wpAny_call_entry F.slot_zip_iter ty F.entry_zip_iter ?_ (F.args_zip_iter_1 _)
  show wpAny _ _ (ret (.ref z)) _ _ s
  refine wpAny_pure ⟨_, rfl, "zip", _, ty, F.slot_zip_next.lookup, ?_⟩
  apply wpAny_bind
  apply wpAny_holding
  refine z_hint ty ?_
  refine wpAny_ite_split (fun _ => ?_) (fun _ => wpAny_pure ⟨plainId_quiet F.plain_extend_loop _, go _ c₀ _ (fun b o _ e => e) hls hS⟩)
  apply wpAny_bind
  apply wpAny_rule
  apply wpAny_bind
  show wpAny _ _ (updateSeq S (·.push .none) >>= fun _ => updateSeq S (·.pop)) _ _ _
  apply wpAny_bind
  refine wpAny_updateSeq hS rfl ?_
  have hS₂ := Heap.get?_update_self (Obj.mapSeq (·.push Value.none)) hS rfl
  refine wpAny_updateSeq (hz := by seq_fits) hS₂ rfl ?_
  have hS₃ := Heap.get?_update_self (Obj.mapSeq (·.pop)) hS₂ rfl
  refine wpAny_pure ⟨plainId_quiet F.plain_extend_loop _, go _ _ _ (fun b o hb e => ?_) ?_ hS₃⟩
  · exact (Heap.get?_update_other _ _ (Ne.symm hb)).trans ((Heap.get?_update_other _ _ (Ne.symm hb)).trans e)
  · rw [Heap.size_update, Heap.size_update]
    exact hls
theorem z_list {z TI TO i1 i2 l1 l2 : Addr} {xs ys : Array Value} (hh : A.handled = none) (D : ZipApart z TI TO i1 i2 l1 l2) (hxy : xs.size = ys.size) (hn : xs.size ≤ sizeLine) {Q : Value → Shared → Prop}
    (hz : ZAt s.heap z TI TO i1 i2 l1 l2 0 []) (hz0 : IsZ s.heap z TI TO .none false) (hl1 : s.heap.IsList l1 xs) (hl2 : s.heap.IsList l2 ys)
    (q : ∀ h' tk acc c as, (∀ b o, b ≠ z → b ≠ TO → b ≠ i1 → b ≠ i2 → s.heap.get? b = some o → h'.get? b = some o) → h'.get? s.heap.objs.size = some { cls := .type "list", dict := none, data := .seq acc c, slots := #[] } → as.length = xs.size → MadeZ xs ys s.heap.objs.size h' as →
      acc.toList = as.map Value.ref → Q (.ref s.heap.objs.size) { s with heap := h', toks := tk }) :
    wpAny (model P w) A (call (.type "list") [.ref z]) Q E s := by
  refine callType_codes (Q₁ := fun obj s₁ => obj = .ref s.heap.objs.size ∧ s₁ = { s with heap := s.heap.push { cls := .type "list", data := .seq #[] } }) F.called_list (F.typeCall_list_1 _) F.entry_list_init (code_list_new _ ⟨rfl, rfl⟩) ?_
  rintro obj s₁ ⟨rfl, rfl⟩
  have hS : (s.heap.push { cls := .type "list", data := .seq #[] }).get? s.heap.objs.size = some { cls := .type "list", data := .seq #[] } := Heap.get?_push_size _ rfl
  obtain ⟨hTI, ⟨a, b, hTO⟩, g1, g2, _⟩ := id hz
  have lt : ∀ {c : Addr} {o : Obj}, s.heap.get? c = some o → c < s.heap.objs.size := fun e => Heap.lt_size e
  have z1 : i1 < s.heap.objs.size := g1.elim fun o e => lt e.1
  have z2 : i2 < s.heap.objs.size := g2.elim fun o e => lt e.1
  have z3 : l1 < s.heap.objs.size := hl1.elim fun o e => lt e.1
  have z4 : l2 < s.heap.objs.size := hl2.elim fun o e => lt e.1
  refine ⟨⟨_, hS, rfl⟩, F.args_list_init_2 _ _, ?_⟩
  show wpAny _ _ (do let old ← Builtin.List.listItems (.ref s.heap.objs.size); Builtin.List.listUpdate (.ref s.heap.objs.size) (fun _ => #[]); letGo old.toList.reverse; Builtin.List.listExtendWith (.ref s.heap.objs.size) (.ref z) .none) _ _ _
  apply wpAny_bind
  unfold Builtin.List.listItems
  apply wpAny_bind
  refine wpAny_seqItems hS rfl (wpAny_pure ?_)
  show wpAny _ _ (updateSeq s.heap.objs.size (fun _ => #[]) >>= fun _ => letGo (#[] : Array Value).toList.reverse >>= fun _ => Builtin.List.listExtendWith (.ref s.heap.objs.size) (.ref z) .none) _ _ _
  apply wpAny_bind
  refine wpAny_updateSeq hS rfl ?_
  have hS₂ := Heap.get?_update_self (Obj.mapSeq (fun _ => (#[] : Array Value))) hS rfl
  have kp : ∀ b o, s.heap.get? b = some o → ((s.heap.push { cls := .type "list", data := .seq #[] }).update s.heap.objs.size (Obj.mapSeq (fun _ => (#[] : Array Value)))).get? b = some o := fun b o e => (Heap.get?_update_other _ _ (Nat.ne_of_gt (Heap.lt_size e))).trans (Heap.get?_push_of_some _ e)
  apply wpAny_bind
  apply wpAny_letGo
  refine z_extend (A := A.in1) (S := s.heap.objs.size) hh D hxy (Nat.ne_of_gt (lt hz0)) (Nat.ne_of_gt (lt hTI)) (Nat.ne_of_gt (lt hTO)) (Nat.ne_of_gt z1) (Nat.ne_of_gt z2) (Nat.ne_of_gt z3) (Nat.ne_of_gt z4) s.heap.objs.size ⟨Nat.le_of_lt (lt hz0), Nat.le_of_lt (lt hTI), Nat.le_of_lt (lt hTO), Nat.le_of_lt z1, Nat.le_of_lt z2, Nat.le_refl _⟩ ?_ hn .none ?_ (kp _ _ hz0) (hl1.at fun o e => kp _ o e) (hl2.at fun o e => kp _ o e) hS₂ ?_
  · show s.heap.objs.size < ((s.heap.push { cls := .type "list", data := .seq #[] }).update s.heap.objs.size (Obj.mapSeq (fun _ => (#[] : Array Value)))).objs.size
    rw [Heap.size_update, Heap.size_push]
    exact Nat.lt_succ_self _
  · exact ⟨kp _ _ hTI, ⟨a, b, kp _ _ hTO⟩, g1.at fun o e => kp _ o e, g2.at fun o e => kp _ o e, .inl ⟨rfl, kp _ _ hz0⟩⟩
  · intro h' tk acc c as k1 k2 k3 k4 k5
    exact ⟨rfl, q h' tk acc c as (fun b o n1 n2 n3 n4 e => k1 b o (Nat.ne_of_lt (Heap.lt_size e)) n1 n2 n3 n4 (kp b o e)) k2 k3 k4 k5⟩
end lz
theorem paired_of {α β : Type} {F : α → β → Prop} : ∀ {l : List α} {k : List β}, l.length = k.length → (∀ (j : Nat) x y, l[j]? = some x → k[j]? = some y → F x y) → Paired F l k
  | [], [], _, _ => .nil
  | [], _ :: _, h, _ => nomatch h
  | _ :: _, [], h, _ => nomatch h
  | x :: l, y :: k, h, f => .cons (f 0 x y rfl rfl) (paired_of (Nat.succ.inj h) fun j a b ha hb => f (j + 1) a b (by simpa using ha) (by simpa using hb))
section lzr
variable {X : Cx}
def tListZip (K : PySem.W.Frag) (ta : TA) : TE := fun σ H Q => ta σ H fun vs H1 => ∃ a b xs ys, vs = [.ref a, .ref b] ∧ SqL K H1 a xs ∧ SqL K H1 b ys ∧ xs.length = ys.length ∧
  ∀ H' p ts, Same H1 H' → H1 p = none → H' p = some (.lst (ts.map V.ref)) → Paired (fun (t : Addr) (e : V × V) => H' t = some (.tup [e.1, e.2])) ts (xs.zip ys) → Q (.ref p) H'
theorem pe_listZip {e e2 : Expr} {ta : TA} {p p2 pos pos2 : Pos} (hc : X.calm = true) (hg : Gl X "list") (hm : X.mg "list" = none) (hg2 : Gl X "zip") (hm2 : X.mg "zip" = none) (ha : PA X [e, e2] ta)
    (c1 : starEach [.Call (.Name "zip" p2) [e, e2] [] pos2] X.env = (false, eval (.Call (.Name "zip" p2) [e, e2] [] pos2) X.env) :: starEach [] X.env := by rfl)
    (c2 : starEach [e, e2] X.env = (false, eval e X.env) :: starEach [e2] X.env := by rfl) (c3 : (backTo pos2 (starEach [e2] X.env)).any (·.1) = false := by rfl) :
    PE X (.Call (.Name "list" p) [.Call (.Name "zip" p2) [e, e2] [] pos2] [] pos) (tListZip X.K ta) := by
  constructor
  intro pins s σ H Q I h
  refine wpAny_Call_Name_kw (ld_blt I hg hm (by decide +kernel : bootBuiltins "list" = some (.type "list")) ?_)
  refine PyProof.Rows.callWith_type1 ?_ c1 rfl
  rw [c1]
  show wpAny _ _ (spliced ((false, eval (.Call (.Name "zip" p2) [e, e2] [] pos2) X.env) :: backTo pos (starEach [] X.env))) _ _ s
  refine Calls.spliced_cons ?_
  refine Call_ (ld_blt I hg2 hm2 PyProof.Rows.boot_zip (PyProof.Rows.callWith_type1 (thn (ha.run pos2 pins s σ H _ I h) ?_) c2 c3))
  rintro us s1 ⟨vs, H1, I1, r1, a, b, xs, ys, rfl, hx, hy, hxy, q⟩
  obtain ⟨u1, u2, rfl, ra, rb⟩ := vals2 r1
  cases ra
  cases rb
  obtain ⟨it1, rv1, p1, z1⟩ := I1.list hx
  obtain ⟨it2, rv2, p2', z2⟩ := I1.list hy
  have n1 := rv1.length
  have n2 := rv2.length
  refine call_zip_2 p1.isList p2'.isList fun h' hz hTI hTO g1 g2 hsz hk => ?_
  refine Calls.spliced_nil ?_
  have la : a < s1.heap.objs.size := p1.lt
  have lb : b < s1.heap.objs.size := p2'.lt
  refine z_list (s := { s1 with heap := h' }) (I1.ok.hd hc) (PySem.W.ktu_apart s1.heap.objs.size a b la lb) (by simp; omega) (by simp; omega) ⟨hTI, ⟨_, _, hTO⟩, g1, g2, .inl ⟨rfl, hz⟩⟩ hz (p1.isList.at fun o e => hk _ o e) (p2'.isList.at fun o e => hk _ o e) fun h'' tk acc c as kp hS hal hG hacc => ?_
  have old : ∀ b o, s1.heap.get? b = some o → h''.get? b = some o := fun b o e => by
    have lt := Heap.lt_size e
    exact kp b o (Nat.ne_of_lt (Nat.lt_of_lt_of_le lt (Nat.le_add_right _ _))) (Nat.ne_of_lt (Nat.lt_of_lt_of_le lt (Nat.le_add_right _ _))) (Nat.ne_of_lt lt) (Nat.ne_of_lt (Nat.lt_of_lt_of_le lt (Nat.le_add_right _ _))) (hk b o e)
  have hS5 : s1.heap.objs.size ≤ h'.objs.size := by
    rw [hsz]
    exact Nat.le_add_right _ _
  have J0 : Inv X pins σ H1 { s1 with heap := h'', toks := tk } := I1.kept (t' := tk) old
  have nS : H1 h'.objs.size = none := I1.hok.fresh hS5
  have hl : as.length = xs.length := by
    rw [hal]
    simp
    omega
  have ok1 : ObjOk X.prog X.w (upd H1 h'.objs.size (.lst (as.map V.ref))) h'' h'.objs.size (.lst (as.map V.ref)) := by
    refine ⟨by rw [List.length_map, hl]; exact z1, acc.toList, c, ?_, ?_⟩
    · rw [hacc]
      exact LiI.vals_refs as
    · rw [Array.toArray_toList]
      exact hS
  have J1 : Inv X pins σ (upd H1 h'.objs.size (.lst (as.map V.ref))) { s1 with heap := h'', toks := tk } := J0.take (h' := h'') (t' := tk) (fun b ob _ e => e) (I1.fpOk hS5 nS) ok1
  have nd : as.Nodup := hG.rise.imp fun {a b} (h : a < b) => Nat.ne_of_lt h
  obtain ⟨H2, J2, s2, tp⟩ := L2.DX.takeT (P := fun t vs => ∃ (j : Nat) (e : V × V), as[j]? = some t ∧ (xs.zip ys)[j]? = some e ∧ vs = [e.1, e.2]) I1 as _ J1 nd fun t ht => by
    obtain ⟨j, hj⟩ := List.mem_iff_getElem?.mp ht
    obtain ⟨x, y, e1, e2, e3⟩ := hG.pairs j t hj
    have ab := hG.above t ht
    have hjx : j < xs.length := by
      have := (List.getElem?_eq_some_iff.mp hj).1
      omega
    have ex : it1[j]? = some x := by simpa using e1
    have ey : it2[j]? = some y := by simpa using e2
    obtain ⟨x', hx', rx⟩ := rv1.get (List.getElem?_eq_getElem hjx)
    obtain ⟨y', hy', ry⟩ := rv2.get (List.getElem?_eq_getElem (show j < ys.length by omega))
    rw [hx'] at ex
    rw [hy'] at ey
    obtain rfl := Option.some.inj ex
    obtain rfl := Option.some.inj ey
    refine ⟨Nat.le_trans hS5 (Nat.le_of_lt ab), ?_, [xs[j], ys[j]'(by omega)], ⟨j, (xs[j], ys[j]'(by omega)), hj, ?_, rfl⟩, fun H3 => ⟨by show 2 ≤ sizeLine; decide, [x', y'], .cons rx (.cons ry .nil), ⟨_, e3, rfl, _, rfl⟩⟩⟩
    · rw [upd_ne (Nat.ne_of_gt ab)]
      exact I1.hok.fresh (Nat.le_trans hS5 (Nat.le_of_lt ab))
    · rw [List.getElem?_zip_eq_some]
      exact ⟨List.getElem?_eq_getElem hjx, List.getElem?_eq_getElem (by omega)⟩
  refine ⟨.ref h'.objs.size, H2, J2, rfl, q H2 h'.objs.size as (fun b o e => s2 b o (by rw [upd_ne (ne_of_none e nS)]; exact e)) nS (s2 _ _ upd_same) ?_⟩
  refine paired_of (by rw [List.length_zip]; omega) fun j t e ht he => ?_
  obtain ⟨vs, ⟨j', e', h1, h2, rfl⟩, h3⟩ := tp t (List.mem_of_getElem? ht)
  have : j = j' := by
    have i1 := (List.getElem?_eq_some_iff.mp ht).1
    exact (List.getElem?_inj i1 nd).mp (ht.trans h1.symm)
  subst this
  rw [he] at h2
  obtain rfl := Option.some.inj h2
  exact h3
end lzr
def spFc : Sp := fun vs H Q _ => ∃ (R : Addr) (m o : Int) (ds : List Deed), vs = [.ref R] ∧ RowAt H R m ds o ∧ ds.length ≤ 100 ∧ ∀ H' p, Same H H' → H p = none → H' p = some (.tup ((ds.map fcD).map V.int)) → Q (.ref p) H'
theorem ok_fc {f : Addr} {fd : FuncData} {k : Nat} (F : Fun K "first_carry" "first_carry" s_first_carry f fd) (mt : mg "tuple" = none) : FnOk P w K mg base CX0 (k + 1) f fd ["row"] spFc := by
  refine F.ok sc_first_carry (fun vs H Q E h => ?_) (fun cdv A outer s H vs Q E hr h => ?_)
  · obtain ⟨R, m, o, ds, rfl, _⟩ := h
    rfl
  · obtain ⟨R, m, o, ds, rfl, hrow, hl, q⟩ := h
    obtain ⟨D, rs, eR, eD, hd⟩ := id hrow
    refine ⟨_, pss_one (ps_ret (pe_callTy call_tuple_of (by rfl) mt (by decide +kernel) (pa_cons
      (pe_lc (own := [("deed", 1)]) (g := gName 1) (by rfl) sc_first_carry.nd (pi_tup (pe_ix ix_tup (pv 0) pe_int (fun _ _ => rfl))) (blkOk_by (own := [("deed", 1)]) (N := N_first_carry) (sc := defScope s_first_carry) (by decide +kernel))
        (fun _ _ _ _ _ => pg_name (i := 1) sc_first_carry.nd rfl (Or.inl rfl)) (fun _ _ _ _ _ => pts_nil)
        (fun _ _ _ _ _ => pe_ifExp (pt_cmpR (r := rIn K false) op_in_seq (pe_ix (r := rIxT K) ix_tup (pv 1) pe_int (fun _ _ => rfl)) (pe_tup (pa_cons pe_str (pa_cons pe_str pa_nil))) (by rfl)) pe_int pe_int)) pa_nil))), ?_⟩
    refine ⟨.ref R, rfl, R, _, 1, .ref D, rfl, rfl, SqT.of eR, rfl, D, rfl, ⟨_, SqT.of eD⟩, fun L hL => ?_⟩
    refine lc_tup (K := K) (a := D) (xs := rs.map V.ref) (fun i H4 => H4 L = some (.lst (((ds.take i).map fcD).map V.int)) ∧ Same H H4) ⟨upd_same, same_new hL⟩ (fun i H4 _ hp => SqT.of (hp.2 _ _ eD)) (fun i x H4 hx hp => ?_) (fun H4 hp => ?_)
    · obtain ⟨eL, sm⟩ := hp
      have hi : i < rs.length := by
        have := (List.getElem?_eq_some_iff.mp hx).1
        rwa [List.length_map] at this
      have hx' : x = .ref rs[i] := by
        rw [List.getElem?_map, List.getElem?_eq_getElem hi] at hx
        exact (Option.some.inj hx).symm
      subst hx'
      obtain ⟨d, hd1, hd2⟩ := awGet hd (List.getElem?_eq_getElem hi)
      refine ⟨rfl, .ref rs[i], rfl, rs[i], _, 0, .str d.1, rfl, rfl, SqT.of (sm _ _ hd2), dv0 d, by show 2 ≤ sizeLine; decide, fun T hT => ?_⟩
      have sT := same_new (o := .tup [.str "neg", .str "one"]) hT
      have eL2 := sT _ _ eL
      have old : ∀ o, Same H (upd (upd H4 T (.tup [.str "neg", .str "one"])) L o) := fun o b u e => by
        rw [upd_ne (ne_of_none e hL)]
        exact sT b u (sm b u e)
      have small : (((ds.take i).map fcD).map V.int).length < sizeLine := by
        rw [List.length_map, List.length_map, List.length_take]
        exact small1000 (by omega)
      have hin := inS d.1 ["neg", "one"]
      refine ⟨T, _, rfl, .inr (SqT.of upd_same), rfl, rfl, _, rfl, ite2 (fun e => ?_) (fun e => ?_)⟩
      · have hm : d.1 ∈ (["neg", "one"] : List Str) := of_decide_eq_true (hin.symm.trans e)
        have e1 : fcD d = 1 := if_pos hm
        refine ⟨_, eL2, small, ?_, old _⟩
        rw [upd_same, List.take_add_one, hd1]
        simp [e1]
      · have hm : ¬ d.1 ∈ (["neg", "one"] : List Str) := fun z => e (hin.trans (decide_eq_true z))
        have e1 : fcD d = 0 := if_neg hm
        refine ⟨_, eL2, small, ?_, old _⟩
        rw [upd_same, List.take_add_one, hd1]
        simp [e1]
    · obtain ⟨eL, sm⟩ := hp
      rw [List.length_map, awLen hd, List.take_length] at eL
      refine ⟨L, _, rfl, .inl ⟨.inl (.inl eL), fun p hp => ?_⟩⟩
      exact q _ p (sm.trans (same_new hp)) (sm.free hp) upd_same
def spDb (K : PySem.W.Frag) : Sp := fun vs H Q _ => ∃ (r L : Addr) (d : Deed) (told : List Int) (c : Int), vs = [.ref r, .int c, .ref L] ∧ H r = some (.tup (dV d)) ∧ SqL K H L (told.map V.int) ∧ DeedOk told.length d ∧ Q (.int (dbitAt d c told)) H
theorem ok_db {f : Addr} {fd : FuncData} {k : Nat} (F : Fun K "deed_bit" "deed_bit" s_deed_bit f fd) : FnOk P w K mg base CX0 (k + 1) f fd ["deed", "held", "told"] (spDb K) := by
  refine F.ok sc_deed_bit (fun vs H Q E h => ?_) (fun cdv A outer s H vs Q E hr h => ?_)
  · obtain ⟨r, L, d, told, c, rfl, _⟩ := h
    rfl
  · obtain ⟨r, L, d, told, c, rfl, er, eL, ok, q⟩ := h
    refine ⟨_, pss_cons (ps_set (i := 3) sc_deed_bit.nd rfl (.inl rfl) (pe_ix ix_tup (pv 0) pe_int (fun _ _ => rfl)))
      (pss_cons (ps_if (pt_cmpR op_eq (pv 3) pe_str (nomark _)) (pss_one (ps_ret pe_int)) pss_nil)
      (pss_cons (ps_if (pt_cmpR op_eq (pv 3) pe_str (nomark _)) (pss_one (ps_ret pe_int)) pss_nil)
      (pss_cons (ps_if (PW.pt (pw_or (pt_cmpR op_eq (pv 3) pe_str (nomark _)) (pw_or1 (pt_cmpR op_eq (pv 3) pe_str (nomark _))))) (pss_one (ps_ret (pv 1))) pss_nil)
      (pss_cons (ps_set (i := 4) sc_deed_bit.nd rfl (.inl rfl) (pe_ix ix_list (pv 2) (pe_ix ix_tup (pv 0) pe_int (fun _ _ => rfl)) (fun _ _ => rfl)))
      (pss_cons (ps_if (pt_cmpR op_eq (pv 3) pe_str (nomark _)) (pss_one (ps_ret (pe_op op_sub pe_int (pv 4)))) pss_nil)
      (pss_cons (ps_if (pt_cmpR op_eq (pv 3) pe_str (nomark _)) (pss_one (ps_ret (pe_op op_xor (pe_op op_sub pe_int (pv 4)) (pv 1)))) pss_nil)
      (pss_cons (ps_set (i := 5) sc_deed_bit.nd rfl (.inl rfl) (pe_ix ix_list (pv 2) (pe_ix ix_tup (pv 0) pe_int (fun _ _ => rfl)) (fun _ _ => rfl)))
      (pss_cons (ps_if (pt_cmpR op_eq (pv 3) pe_str (nomark _)) (pss_one (ps_ret (pe_op op_and (pv 4) (pv 5)))) pss_nil)
      (pss_cons (ps_if (pt_cmpR op_eq (pv 3) pe_str (nomark _)) (pss_one (ps_ret (pe_op op_or (pv 4) (pv 5)))) pss_nil)
      (pss_cons (ps_if (pt_cmpR op_eq (pv 3) pe_str (nomark _)) (pss_one (ps_ret (pe_op op_xor (pv 4) (pv 5)))) pss_nil)
      (pss_one (ps_ret (pe_op op_xor (pe_op op_xor (pv 4) (pv 5)) (pv 1)))))))))))))), ?_⟩
    unfold dbitAt dbit at q
    refine ⟨.ref r, rfl, r, _, 0, .str d.1, rfl, rfl, SqT.of er, dv0 d, ?_⟩
    refine ⟨.str d.1, rfl, rfl, _, rfl, ite2 (fun e => ?_) (fun n1 => ?_)⟩
    · rw [if_pos (strEq e)] at q
      exact q
    rw [if_neg (strNe n1)] at q
    refine ⟨.str d.1, rfl, rfl, _, rfl, ite2 (fun e => ?_) (fun n2 => ?_)⟩
    · rw [if_pos (strEq e)] at q
      exact q
    rw [if_neg (strNe n2)] at q
    refine ⟨.str d.1, rfl, rfl, _, rfl, ite2 (fun e => ?_) (fun n3 => ?_)⟩
    · rw [if_pos (strEq e)] at q
      exact ⟨.int c, rfl, q⟩
    rw [if_neg (strNe n3)] at q
    refine ⟨.str d.1, rfl, rfl, _, rfl, ite2 (fun e => ?_) (fun n4 => ?_)⟩
    · rw [if_pos (strEq e)] at q
      exact ⟨.int c, rfl, q⟩
    rw [if_neg (strNe n4)] at q
    obtain ⟨i, hi, ai, ei⟩ := arg1 ok (strNe n1) (strNe n3) (strNe n2)
    refine ⟨.ref L, rfl, .ref r, rfl, r, _, 1, .int i, rfl, rfl, SqT.of er, dvN (k := 0) hi, L, _, i, .int (argAt d told 0), rfl, rfl, eL, ei, ?_⟩
    refine ⟨.str d.1, rfl, rfl, _, rfl, ite2 (fun e => ?_) (fun n5 => ?_)⟩
    · rw [if_pos (strEq e)] at q
      exact ⟨.int _, rfl, 1, _, rfl, rfl, q⟩
    rw [if_neg (strNe n5)] at q
    refine ⟨.str d.1, rfl, rfl, _, rfl, ite2 (fun e => ?_) (fun n6 => ?_)⟩
    · rw [if_pos (strEq e)] at q
      exact ⟨.int _, rfl, 1, _, rfl, rfl, .int c, rfl, _, _, rfl, rfl, q⟩
    rw [if_neg (strNe n6)] at q
    obtain ⟨j, hj, aj, ej⟩ := arg2 ok (strNe n1) (strNe n3) (strNe n2) (strNe n5) (strNe n6) (strNe n4)
    refine ⟨.ref L, rfl, .ref r, rfl, r, _, 2, .int j, rfl, rfl, SqT.of er, dvN (k := 1) hj, L, _, j, .int (argAt d told 1), rfl, rfl, eL, ej, ?_⟩
    refine ⟨.str d.1, rfl, rfl, _, rfl, ite2 (fun e => ?_) (fun n7 => ?_)⟩
    · rw [if_pos (strEq e)] at q
      exact ⟨.int _, rfl, .int _, rfl, _, _, rfl, rfl, q⟩
    rw [if_neg (strNe n7)] at q
    refine ⟨.str d.1, rfl, rfl, _, rfl, ite2 (fun e => ?_) (fun n8 => ?_)⟩
    · rw [if_pos (strEq e)] at q
      exact ⟨.int _, rfl, .int _, rfl, _, _, rfl, rfl, q⟩
    rw [if_neg (strNe n8)] at q
    refine ⟨.str d.1, rfl, rfl, _, rfl, ite2 (fun e => ?_) (fun n9 => ?_)⟩
    · rw [if_pos (strEq e)] at q
      exact ⟨.int _, rfl, .int _, rfl, _, _, rfl, rfl, q⟩
    rw [if_neg (strNe n9)] at q
    exact ⟨.int _, rfl, .int _, rfl, _, _, rfl, rfl, .int c, rfl, _, _, rfl, rfl, q⟩
def spBo : Sp := fun vs H Q _ => ∃ (R C B : Addr) (m o : Int) (ds : List Deed) (cs bs : List Int), vs = [.ref R, .ref C, .ref B] ∧ RowAt H R m ds o ∧ DsOk m ds ∧ ds.length ≤ 100 ∧ H C = some (.tup (cs.map V.int)) ∧ cs.length = ds.length ∧ H B = some (.tup (bs.map V.int)) ∧ (bs.length : Int) = m ∧ bs.length ≤ 100 ∧
  ∀ H' p, Same H H' → H p = none → H' p = some (.tup ((bts ds cs bs).map V.int)) → Q (.ref p) H'
theorem ok_bo {f fB : Addr} {fd fdB : FuncData} {k : Nat} (F : Fun K "bits_of" "bits_of" s_bits_of f fd) (GB : FnOk P w K mg base CX0 (k + 1) fB fdB ["deed", "held", "told"] (spDb K)) (kB : PySem.W.keepIn K (.ref fB) = true) (bB : Binds K fdB ["deed", "held", "told"] []) (gB : mg "deed_bit" = some (.ref fB))
    (ml : mg "list" = none) (mt : mg "tuple" = none) (mz : mg "zip" = none) : FnOk P w K mg base CX0 (k + 2) f fd ["row", "carry", "bits"] spBo := by
  refine F.ok sc_bits_of (fun vs H Q E h => ?_) (fun cdv A outer s H vs Q E hr h => ?_)
  · obtain ⟨R, C, B, m, o, ds, cs, bs, rfl, _⟩ := h
    rfl
  · obtain ⟨R, C, B, m, o, ds, cs, bs, rfl, hrow, hok, hds, eC, hcl, eB, hm, hbl, q⟩ := h
    obtain ⟨D, rs, eR, eD, hd⟩ := id hrow
    refine ⟨_, pss_cons (ps_set (i := 3) sc_bits_of.nd rfl (.inl rfl) (pe_callTy call_list_of (by rfl) ml (by decide +kernel) (pa_cons (pv 2) pa_nil)))
      (pss_cons (ps_for PassesOwn.never rfl (RZ.pi_zipA (by rfl) mz (pa_cons (pe_ix ix_tup (pv 0) pe_int (fun _ _ => rfl)) (pa_cons (pv 1) pa_nil))) (pg_tup rfl (pgs_cons (pg_name (i := 4) sc_bits_of.nd rfl (.inl rfl)) (pgs_cons (pg_name (i := 5) sc_bits_of.nd rfl (.inl rfl)) pgs_nil)))
        (pss_one (ps_expr (pe_bm PySem.F.plainAttrs_list PySem.F.slot_list_append PySem.F.type_list_append mt_append (pv 3) (pa_cons (pe_call GB hr (by rfl) gB kB bB .nil pass0 (pa_cons (pv 4) (pa_cons (pv 5) (pa_cons (pv 3) pa_nil)))) pa_nil)))))
      (pss_one (ps_ret (pe_callTy call_tuple_of (by rfl) mt (by decide +kernel) (pa_cons (pv 3) pa_nil))))), ?_⟩
    refine ⟨.ref B, rfl, B, _, rfl, .inr (SqT.of eB), fun L hL => ?_⟩
    have sL := same_new (o := .lst (bs.map V.int)) hL
    have lrs : (rs.map V.ref).length = ds.length := by rw [List.length_map, awLen hd]
    have lcs : (cs.map V.int).length = ds.length := by rw [List.length_map, hcl]
    refine ⟨.ref R, rfl, R, _, 1, .ref D, rfl, rfl, SqT.of (sL _ _ eR), rfl, .ref C, rfl, D, C, _, _, rfl, .inr ⟨SqT.of (sL _ _ eD), SqT.of (sL _ _ eC), RZ.for_zipT (K := K) (xs := rs.map V.ref) (ys := cs.map V.int) (lrs.trans lcs.symm) (fun i σ H3 => ∃ y4 y5, σ = [some (.ref R), some (.ref C), some (.ref B), some (.ref L), y4, y5] ∧ H3 L = some (.lst ((bts (ds.take i) (cs.take i) bs).map V.int)) ∧ Same H H3) ⟨none, none, rfl, by rw [upd_same]; cases ds <;> rfl, sL⟩ (fun i σ H3 hp => ?_) (fun i x y T σ H3 hx hy hp hT => ?_) (fun σ H3 hp => ?_)⟩⟩
    · obtain ⟨_, _, _, _, sm⟩ := hp
      exact ⟨SqT.of (sm _ _ eD), SqT.of (sm _ _ eC)⟩
    · obtain ⟨y4, y5, rfl, e3, sm⟩ := hp
      have hi : i < rs.length := by
        have := (List.getElem?_eq_some_iff.mp hx).1
        rwa [List.length_map] at this
      have hx' : x = .ref rs[i] := by
        rw [List.getElem?_map, List.getElem?_eq_getElem hi] at hx
        exact (Option.some.inj hx).symm
      subst hx'
      obtain ⟨d, hd1, hd2⟩ := awGet hd (List.getElem?_eq_getElem hi)
      obtain ⟨c, hc, rfl⟩ : ∃ c, cs[i]? = some c ∧ y = .int c := by
        rw [List.getElem?_map] at hy
        cases e : cs[i]? with
        | none => rw [e] at hy; cases hy
        | some c => rw [e] at hy; exact ⟨c, rfl, (Option.some.inj hy).symm⟩
      have h2 : i < ds.length := by
        rw [← awLen hd]
        exact hi
      have hlen : (bts (ds.take i) (cs.take i) bs).length = bs.length + i := by
        rw [bts_len (by rw [List.length_take, List.length_take, hcl]), List.length_take, Nat.min_eq_left (Nat.le_of_lt h2)]
      have okd : DeedOk (bts (ds.take i) (cs.take i) bs).length d := by
        rw [hlen]
        have := hok.each i d hd1
        rw [← hm] at this
        exact this
      have sT := same_new (o := .tup [.ref rs[i], .int c]) hT
      have e4 := sT _ _ e3
      refine ⟨T, [.ref rs[i], .int c], rfl, .inl (.inl upd_same), rfl, .ref rs[i], [.int c], rfl, .int c, [], rfl, rfl, ?_⟩
      refine ⟨.ref L, rfl, .inl ⟨rfl, _, .inl (.inl e4)⟩, .ref rs[i], rfl, .int c, rfl, .ref L, rfl, rs[i], L, d, _, c, rfl, sT _ _ (sm _ _ hd2), .inl (.inl e4), okd, L, _, _, rfl, rfl, e4, ?_, some (.ref rs[i]), some (.int c), rfl, ?_, ?_⟩
      · rw [List.length_map, hlen]
        exact small1000 (by omega)
      · rw [upd_same, bts_next hd1 hc, List.map_append]
        rfl
      · intro b u e
        rw [upd_ne (ne_of_none e hL)]
        exact sT b u (sm b u e)
    · obtain ⟨y4, y5, rfl, e3, sm⟩ := hp
      rw [lrs, List.take_length, ← hcl, List.take_length] at e3
      refine ⟨.ref L, rfl, L, _, rfl, .inl ⟨.inl (.inl e3), fun p hp => ?_⟩⟩
      exact q _ p (sm.trans (same_new hp)) (sm.free hp) upd_same
def spTm : Sp := fun vs H Q _ => ∃ a b c : Int, vs = [.int a, .int b, .int c] ∧ Q (.int ((a + b + c) / 2)) H
theorem ok_tm {f : Addr} {fd : FuncData} {k : Nat} (F : Fun K "two_or_more" "two_or_more" s_two_or_more f fd) : FnOk P w K mg base CX0 (k + 1) f fd ["one", "other", "third"] spTm := by
  refine F.ok sc_two_or_more (fun vs H Q E h => ?_) (fun cdv A outer s H vs Q E hr h => ?_)
  · obtain ⟨a, b, c, rfl, _⟩ := h
    rfl
  · obtain ⟨a, b, c, rfl, q⟩ := h
    refine ⟨_, pss_one (ps_ret (pe_op op_fdiv (pe_op op_add (pe_op op_add (pv 0) (pv 1)) (pv 2)) pe_int)), ?_⟩
    exact ⟨.int a, rfl, .int b, rfl, a, b, rfl, rfl, .int c, rfl, _, c, rfl, rfl, _, 2, rfl, rfl, ⟨by decide, by decide⟩, q⟩
def spDc : Sp := fun vs H Q _ => ∃ (r L : Addr) (d : Deed) (told : List Int) (c : Int), vs = [.ref r, .int c, .ref L] ∧ H r = some (.tup (dV d)) ∧ H L = some (.tup (told.map V.int)) ∧ DeedOk told.length d ∧ Q (.int (dcarAt d c told)) H
theorem ok_dc {f fT : Addr} {fd fdT : FuncData} {k : Nat} (F : Fun K "deed_carry" "deed_carry" s_deed_carry f fd) (GT : FnOk P w K mg base CX0 (k + 1) fT fdT ["one", "other", "third"] spTm) (kT : PySem.W.keepIn K (.ref fT) = true) (bT : Binds K fdT ["one", "other", "third"] []) (gT : mg "two_or_more" = some (.ref fT)) :
    FnOk P w K mg base CX0 (k + 2) f fd ["deed", "held", "told"] spDc := by
  refine F.ok sc_deed_carry (fun vs H Q E h => ?_) (fun cdv A outer s H vs Q E hr h => ?_)
  · obtain ⟨r, L, d, told, c, rfl, _⟩ := h
    rfl
  · obtain ⟨r, L, d, told, c, rfl, er, eL, ok, q⟩ := h
    refine ⟨_, pss_cons (ps_set (i := 3) sc_deed_carry.nd rfl (.inl rfl) (pe_ix ix_tup (pv 0) pe_int (fun _ _ => rfl)))
      (pss_cons (ps_if (pt_cmpR op_eq (pv 3) pe_str (nomark _)) (pss_one (ps_ret (pe_op op_and (pe_op op_sub pe_int (pe_ix ix_tup (pv 2) (pe_ix ix_tup (pv 0) pe_int (fun _ _ => rfl)) (fun _ _ => rfl))) (pv 1)))) pss_nil)
      (pss_cons (ps_if (pt_cmpR op_eq (pv 3) pe_str (nomark _)) (pss_one (ps_ret (pe_ix ix_tup (pv 2) (pe_ix ix_tup (pv 0) pe_int (fun _ _ => rfl)) (fun _ _ => rfl)))) pss_nil)
      (pss_cons (ps_if (pt_cmpR op_eq (pv 3) pe_str (nomark _)) (pss_one (ps_ret (pe_call GT hr (by rfl) gT kT bT .nil pass0 (pa_cons (pe_ix ix_tup (pv 2) (pe_ix ix_tup (pv 0) pe_int (fun _ _ => rfl)) (fun _ _ => rfl)) (pa_cons (pe_ix ix_tup (pv 2) (pe_ix ix_tup (pv 0) pe_int (fun _ _ => rfl)) (fun _ _ => rfl)) (pa_cons (pv 1) pa_nil)))))) pss_nil)
      (pss_cons (ps_if (pt_cmpR op_eq (pv 3) pe_str (nomark _)) (pss_one (ps_ret (pe_call GT hr (by rfl) gT kT bT .nil pass0 (pa_cons (pe_op op_sub pe_int (pe_ix ix_tup (pv 2) (pe_ix ix_tup (pv 0) pe_int (fun _ _ => rfl)) (fun _ _ => rfl))) (pa_cons (pe_ix ix_tup (pv 2) (pe_ix ix_tup (pv 0) pe_int (fun _ _ => rfl)) (fun _ _ => rfl)) (pa_cons (pv 1) pa_nil)))))) pss_nil)
      (pss_one (ps_ret pe_int)))))), ?_⟩
    unfold dcarAt dcar at q
    have lL : SqT K H L (told.map V.int) := SqT.of eL
    refine ⟨.ref r, rfl, r, _, 0, .str d.1, rfl, rfl, SqT.of er, dv0 d, ?_⟩
    refine ⟨.str d.1, rfl, rfl, _, rfl, ite2 (fun e => ?_) (fun n1 => ?_)⟩
    · rw [if_pos (strEq e)] at q
      have e2 := strEq e
      obtain ⟨i, hi, ai, ei⟩ := arg1 ok (by rw [e2]; decide +kernel) (by rw [e2]; decide +kernel) (by rw [e2]; decide +kernel)
      exact ⟨.ref L, rfl, .ref r, rfl, r, _, 1, .int i, rfl, rfl, SqT.of er, dvN (k := 0) hi, L, _, i, _, rfl, rfl, lL, ei, 1, _, rfl, rfl, .int c, rfl, _, _, rfl, rfl, q⟩
    rw [if_neg (strNe n1)] at q
    refine ⟨.str d.1, rfl, rfl, _, rfl, ite2 (fun e => ?_) (fun n2 => ?_)⟩
    · rw [if_pos (strEq e)] at q
      have e2 := strEq e
      obtain ⟨i, hi, ai, ei⟩ := arg1 ok (by rw [e2]; decide +kernel) (by rw [e2]; decide +kernel) (by rw [e2]; decide +kernel)
      exact ⟨.ref L, rfl, .ref r, rfl, r, _, 1, .int i, rfl, rfl, SqT.of er, dvN (k := 0) hi, L, _, i, _, rfl, rfl, lL, ei, q⟩
    rw [if_neg (strNe n2)] at q
    refine ⟨.str d.1, rfl, rfl, _, rfl, ite2 (fun e => ?_) (fun n3 => ?_)⟩
    · rw [if_pos (strEq e)] at q
      have e2 := strEq e
      obtain ⟨i, hi, ai, ei⟩ := arg1 ok (by rw [e2]; decide +kernel) (by rw [e2]; decide +kernel) (by rw [e2]; decide +kernel)
      obtain ⟨j, hj, aj, ej⟩ := arg2 ok (by rw [e2]; decide +kernel) (by rw [e2]; decide +kernel) (by rw [e2]; decide +kernel) (by rw [e2]; decide +kernel) (by rw [e2]; decide +kernel) (by rw [e2]; decide +kernel)
      exact ⟨.ref L, rfl, .ref r, rfl, r, _, 1, .int i, rfl, rfl, SqT.of er, dvN (k := 0) hi, L, _, i, _, rfl, rfl, lL, ei, .ref L, rfl, .ref r, rfl, r, _, 2, .int j, rfl, rfl, SqT.of er, dvN (k := 1) hj, L, _, j, _, rfl, rfl, lL, ej, .int c, rfl, _, _, c, rfl, q⟩
    rw [if_neg (strNe n3)] at q
    refine ⟨.str d.1, rfl, rfl, _, rfl, ite2 (fun e => ?_) (fun n4 => ?_)⟩
    · rw [if_pos (strEq e)] at q
      have e2 := strEq e
      obtain ⟨i, hi, ai, ei⟩ := arg1 ok (by rw [e2]; decide +kernel) (by rw [e2]; decide +kernel) (by rw [e2]; decide +kernel)
      obtain ⟨j, hj, aj, ej⟩ := arg2 ok (by rw [e2]; decide +kernel) (by rw [e2]; decide +kernel) (by rw [e2]; decide +kernel) (by rw [e2]; decide +kernel) (by rw [e2]; decide +kernel) (by rw [e2]; decide +kernel)
      exact ⟨.ref L, rfl, .ref r, rfl, r, _, 1, .int i, rfl, rfl, SqT.of er, dvN (k := 0) hi, L, _, i, _, rfl, rfl, lL, ei, 1, _, rfl, rfl, .ref L, rfl, .ref r, rfl, r, _, 2, .int j, rfl, rfl, SqT.of er, dvN (k := 1) hj, L, _, j, _, rfl, rfl, lL, ej, .int c, rfl, _, _, c, rfl, q⟩
    rw [if_neg (strNe n4)] at q
    exact q
theorem okd_more {m : Int} {i n : Nat} {d : Deed} (h : DeedOk (m + i) d) (hn : m + i ≤ n) : DeedOk n d := ⟨h.word, fun z hz => ⟨(h.ahead z hz).1, by have := (h.ahead z hz).2; omega⟩⟩
def bitA (t : Nat) (x : Int) : Int := x / 2 ^ t % 2
theorem bitA_bit (t : Nat) (x : Int) : Bit (bitA t x) := by
  have h0 := Int.emod_nonneg (x / 2 ^ t) (show (2 : Int) ≠ 0 by decide)
  have h1 := Int.emod_lt_of_pos (x / 2 ^ t) (show (0 : Int) < 2 by decide)
  unfold bitA Bit
  omega
/-- the bit at p -/
theorem bit_at {V p u k r : Int} (hp : 0 < p) (h : V = p * (2 * u + k) + r) (r0 : 0 ≤ r) (r1 : r < p) : V / p % 2 = k % 2 := by
  have e : V / p = 2 * u + k := by
    rw [h, Int.add_comm, Int.add_mul_ediv_left _ _ (by omega), Int.ediv_eq_zero_of_lt r0 r1, Int.zero_add]
  rw [e]
  omega
theorem bit_val {k : Int} (h : Bit k) : k % 2 = k := by rcases h with rfl | rfl <;> decide
theorem low_next (A : Int) {p : Int} (hp : 0 < p) : A % (2 * p) = p * (A / p % 2) + A % p := by
  have e := Int.mul_ediv_add_emod A p
  have e2 := Int.mul_ediv_add_emod (A / p) 2
  have r0 := Int.emod_nonneg A (show p ≠ 0 by omega)
  have r1 := Int.emod_lt_of_pos A hp
  have hb := bitA_bit 0 (A / p)
  have b : A / p % 2 = 0 ∨ A / p % 2 = 1 := by omega
  have e3 : A = 2 * p * (A / p / 2) + (p * (A / p % 2) + A % p) := by
    have z : p * (A / p) = p * (2 * (A / p / 2) + A / p % 2) := by rw [e2]
    rw [Int.mul_add, ← Int.mul_assoc, Int.mul_comm p 2] at z
    omega
  have s0 : 0 ≤ p * (A / p % 2) + A % p := by rcases b with b | b <;> rw [b] <;> omega
  have s1 : p * (A / p % 2) + A % p < 2 * p := by rcases b with b | b <;> rw [b] <;> omega
  generalize p * (A / p % 2) + A % p = s at e3 s0 s1
  rw [e3, Int.mul_add_emod_self_left, Int.emod_eq_of_lt s0 s1]
/-- what is carried into the bit at p -/
def CI (x : Str) (A B p c : Int) : Prop :=
  if x = "add" then ∃ r, A % p + B % p = p * c + r ∧ 0 ≤ r ∧ r < p
  else if x = "sub" then ∃ r, A % p - B % p = r - p * c ∧ 0 ≤ r ∧ r < p
  else if x = "neg" then ∃ r, -(A % p) = r - p * (1 - c) ∧ 0 ≤ r ∧ r < p
  else if x = "twice" then ∃ r, A % p + A % p = p * c + r ∧ 0 ≤ r ∧ r < p
  else if x = "one" then c = if p = 1 then 1 else 0
  else c = 0
theorem ci_first (d : Deed) (A B : Int) : CI d.1 A B 1 (fcD d) := by
  unfold CI fcD
  rw [Int.emod_one, Int.emod_one]
  by_cases h1 : d.1 = "add"
  · rw [if_pos h1, h1]
    exact ⟨0, by decide, by decide, by decide⟩
  rw [if_neg h1]
  by_cases h2 : d.1 = "sub"
  · rw [if_pos h2, h2]
    exact ⟨0, by decide, by decide, by decide⟩
  rw [if_neg h2]
  by_cases h3 : d.1 = "neg"
  · rw [if_pos h3, h3]
    exact ⟨0, by decide, by decide, by decide⟩
  rw [if_neg h3]
  by_cases h4 : d.1 = "twice"
  · rw [if_pos h4, h4]
    exact ⟨0, by decide, by decide, by decide⟩
  rw [if_neg h4]
  by_cases h5 : d.1 = "one"
  · rw [if_pos h5, h5]
    decide
  rw [if_neg h5, if_neg (by simp [h3, h5])]
theorem ci_next {x : Str} {A B p c : Int} (hp : 0 < p) (hc : Bit c) (h : CI x A B p c) : CI x A B (2 * p) (dcar x (A / p % 2) (B / p % 2) c) := by
  have ba : Bit (A / p % 2) := by unfold Bit; omega
  have bb : Bit (B / p % 2) := by unfold Bit; omega
  have la := low_next A hp
  have lb := low_next B hp
  have a0 := Int.emod_nonneg A (show p ≠ 0 by omega)
  have a1 := Int.emod_lt_of_pos A hp
  generalize A / p % 2 = α at la ba
  generalize B / p % 2 = β at lb bb
  unfold CI at h ⊢
  rw [la, lb]
  generalize A % p = a at h a0 a1
  generalize B % p = b at h
  by_cases h1 : x = "add"
  · subst h1
    rw [if_pos rfl] at h ⊢
    obtain ⟨r, e, r0, r1⟩ := h
    rcases ba with rfl | rfl <;> rcases bb with rfl | rfl <;> rcases hc with rfl | rfl
    · exact ⟨r, by show _ = 2 * p * 0 + r; omega, r0, by omega⟩
    · exact ⟨p + r, by show _ = 2 * p * 0 + (p + r); omega, by omega, by omega⟩
    · exact ⟨p + r, by show _ = 2 * p * 0 + (p + r); omega, by omega, by omega⟩
    · exact ⟨r, by show _ = 2 * p * 1 + r; omega, r0, by omega⟩
    · exact ⟨p + r, by show _ = 2 * p * 0 + (p + r); omega, by omega, by omega⟩
    · exact ⟨r, by show _ = 2 * p * 1 + r; omega, r0, by omega⟩
    · exact ⟨r, by show _ = 2 * p * 1 + r; omega, r0, by omega⟩
    · exact ⟨p + r, by show _ = 2 * p * 1 + (p + r); omega, by omega, by omega⟩
  rw [if_neg h1] at h ⊢
  by_cases h2 : x = "sub"
  · subst h2
    rw [if_pos rfl] at h ⊢
    obtain ⟨r, e, r0, r1⟩ := h
    rcases ba with rfl | rfl <;> rcases bb with rfl | rfl <;> rcases hc with rfl | rfl
    · exact ⟨r, by show _ = r - 2 * p * 0; omega, r0, by omega⟩
    · exact ⟨p + r, by show _ = (p + r) - 2 * p * 1; omega, by omega, by omega⟩
    · exact ⟨p + r, by show _ = (p + r) - 2 * p * 1; omega, by omega, by omega⟩
    · exact ⟨r, by show _ = r - 2 * p * 1; omega, r0, by omega⟩
    · exact ⟨p + r, by show _ = (p + r) - 2 * p * 0; omega, by omega, by omega⟩
    · exact ⟨r, by show _ = r - 2 * p * 0; omega, r0, by omega⟩
    · exact ⟨r, by show _ = r - 2 * p * 0; omega, r0, by omega⟩
    · exact ⟨p + r, by show _ = (p + r) - 2 * p * 1; omega, by omega, by omega⟩
  rw [if_neg h2] at h ⊢
  by_cases h3 : x = "neg"
  · subst h3
    rw [if_pos rfl] at h ⊢
    obtain ⟨r, e, r0, r1⟩ := h
    rcases ba with rfl | rfl <;> rcases hc with rfl | rfl
    · exact ⟨p + r, by show _ = (p + r) - 2 * p * (1 - 0); omega, by omega, by omega⟩
    · exact ⟨r, by show _ = r - 2 * p * (1 - 1); omega, r0, by omega⟩
    · exact ⟨r, by show _ = r - 2 * p * (1 - 0); omega, r0, by omega⟩
    · exact ⟨p + r, by show _ = (p + r) - 2 * p * (1 - 0); omega, by omega, by omega⟩
  rw [if_neg h3] at h ⊢
  by_cases h4 : x = "twice"
  · subst h4
    rw [if_pos rfl] at h ⊢
    obtain ⟨r, e, r0, r1⟩ := h
    rcases ba with rfl | rfl
    · exact ⟨a + a, by show _ = 2 * p * 0 + (a + a); omega, by omega, by omega⟩
    · exact ⟨a + a, by show _ = 2 * p * 1 + (a + a); omega, by omega, by omega⟩
  rw [if_neg h4] at h ⊢
  have hz : dcar x α β c = 0 := by
    unfold dcar
    rw [if_neg h3, if_neg h4, if_neg h1, if_neg h2]
  by_cases h5 : x = "one"
  · rw [if_pos h5, hz, if_neg (by omega)]
  · rw [if_neg h5, hz]
theorem nat_bits {a b t : Nat} : ((a &&& b) / 2 ^ t % 2 = (a / 2 ^ t % 2) &&& (b / 2 ^ t % 2)) ∧ ((a ||| b) / 2 ^ t % 2 = (a / 2 ^ t % 2) ||| (b / 2 ^ t % 2)) ∧ ((a ^^^ b) / 2 ^ t % 2 = (a / 2 ^ t % 2) ^^^ (b / 2 ^ t % 2)) := by
  refine ⟨?_, ?_, ?_⟩
  · rw [← Nat.shiftRight_eq_div_pow, ← Nat.shiftRight_eq_div_pow, ← Nat.shiftRight_eq_div_pow, Nat.shiftRight_and_distrib]
    exact Nat.and_mod_two_pow (n := 1)
  · rw [← Nat.shiftRight_eq_div_pow, ← Nat.shiftRight_eq_div_pow, ← Nat.shiftRight_eq_div_pow, Nat.shiftRight_or_distrib]
    exact Nat.or_mod_two_pow (n := 1)
  · rw [← Nat.shiftRight_eq_div_pow, ← Nat.shiftRight_eq_div_pow, ← Nat.shiftRight_eq_div_pow, Nat.shiftRight_xor_distrib]
    exact Nat.xor_mod_two_pow (n := 1)
theorem cast_bit (a t : Nat) : bitA t (a : Int) = ((a / 2 ^ t % 2 : Nat) : Int) := by
  unfold bitA
  rw [pw_cast]
  omega
theorem bit_land {A B : Int} (t : Nat) (ha : 0 ≤ A) (hb : 0 ≤ B) : bitA t (Builtin.bitAnd A B) = Builtin.bitAnd (bitA t A) (bitA t B) := by
  obtain ⟨a, rfl⟩ := Int.eq_ofNat_of_zero_le ha
  obtain ⟨b, rfl⟩ := Int.eq_ofNat_of_zero_le hb
  rw [cast_bit, cast_bit, bitAnd_pp (Int.natCast_nonneg _) (Int.natCast_nonneg _), bitAnd_pp (Int.natCast_nonneg _) (Int.natCast_nonneg _)]
  simp only [Int.toNat_natCast]
  rw [cast_bit, nat_bits.1]
theorem bit_lor {A B : Int} (t : Nat) (ha : 0 ≤ A) (hb : 0 ≤ B) : bitA t (Builtin.bitOr A B) = Builtin.bitOr (bitA t A) (bitA t B) := by
  obtain ⟨a, rfl⟩ := Int.eq_ofNat_of_zero_le ha
  obtain ⟨b, rfl⟩ := Int.eq_ofNat_of_zero_le hb
  rw [cast_bit, cast_bit, bitOr_nn (Int.natCast_nonneg _) (Int.natCast_nonneg _), bitOr_nn (Int.natCast_nonneg _) (Int.natCast_nonneg _)]
  simp only [Int.toNat_natCast]
  rw [cast_bit, nat_bits.2.1]
theorem bit_lxor {A B : Int} (t : Nat) (ha : 0 ≤ A) (hb : 0 ≤ B) : bitA t (Builtin.bitXor A B) = Builtin.bitXor (bitA t A) (bitA t B) := by
  obtain ⟨a, rfl⟩ := Int.eq_ofNat_of_zero_le ha
  obtain ⟨b, rfl⟩ := Int.eq_ofNat_of_zero_le hb
  rw [cast_bit, cast_bit, Bits.bitXor_pp (Int.natCast_nonneg _) (Int.natCast_nonneg _), Bits.bitXor_pp (Int.natCast_nonneg _) (Int.natCast_nonneg _)]
  simp only [Int.toNat_natCast]
  rw [cast_bit, nat_bits.2.2]
theorem dbit_tells {x : Str} {A B c : Int} {t n : Nat} (hx : x ∈ fwL.map (·.1)) (ht : t < n) (ha : 0 ≤ A) (hb : 0 ≤ B) (hc : Bit c) (h : CI x A B (2 ^ t) c) : dbit x (bitA t A) (bitA t B) c = bitA t (dvalue x A B (2 ^ n)) := by
  have hp := pw_pos t
  have eA := Int.mul_ediv_add_emod A (2 ^ t)
  have eB := Int.mul_ediv_add_emod B (2 ^ t)
  have qa := Int.mul_ediv_add_emod (A / 2 ^ t) 2
  have qb := Int.mul_ediv_add_emod (B / 2 ^ t) 2
  have a0 := Int.emod_nonneg A (show (2 : Int) ^ t ≠ 0 by omega)
  have a1 := Int.emod_lt_of_pos A hp
  have b0 := Int.emod_nonneg B (show (2 : Int) ^ t ≠ 0 by omega)
  have b1 := Int.emod_lt_of_pos B hp
  have ba := bitA_bit t A
  have bb := bitA_bit t B
  obtain ⟨N', hN⟩ : ∃ N' : Int, (2 : Int) ^ n = 2 ^ t * (2 * N') := by
    refine ⟨2 ^ (n - t - 1), ?_⟩
    rw [show n = t + 1 + (n - t - 1) by omega, Int.pow_add, Int.pow_succ, Int.mul_assoc]
    congr 3
    omega
  have land := bit_land t ha hb
  have lor := bit_lor t ha hb
  have lxor := bit_lxor t ha hb
  have tt : bitA t (A + A) = (A + A) / 2 ^ t % 2 := rfl
  rw [hN]
  unfold CI at h
  have p1 : (2 : Int) ^ t = 1 ∨ 2 ≤ (2 : Int) ^ t := by omega
  unfold bitA at ba bb ⊢
  unfold bitA at land lor lxor
  clear tt hN
  generalize (2 : Int) ^ t = p at *
  generalize hα : A / p % 2 = α at *
  generalize hβ : B / p % 2 = β at *
  generalize A % p = a at *
  generalize B % p = b at *
  generalize A / p / 2 = A' at *
  generalize B / p / 2 = B' at *
  have dA : A = p * (2 * A' + α) + a := by rw [qa]; omega
  have dB : B = p * (2 * B' + β) + b := by rw [qb]; omega
  have mA := Int.mul_add p (2 * A') α
  have mB := Int.mul_add p (2 * B') β
  simp only [fwL, List.map_cons, List.map_nil, List.mem_cons, List.not_mem_nil, or_false] at hx
  rcases hx with rfl | rfl | rfl | rfl | rfl | rfl | rfl | rfl | rfl | rfl | rfl
  · show (0 : Int) = 0 / p % 2
    rw [Int.zero_ediv]
    rfl
  · show c = 1 / p % 2
    have hc1 : c = if p = 1 then 1 else 0 := h
    rcases p1 with p1 | p1
    · rw [hc1, if_pos p1, p1]
      decide
    · rw [hc1, if_neg (by omega), Int.ediv_eq_zero_of_lt (by omega) (by omega)]
      rfl
  · show (1 : Int) = (p * (2 * N') - 1) / p % 2
    rw [bit_at (u := N' - 1) (k := 1) (r := p - 1) hp (by rw [Int.mul_add, Int.mul_sub, Int.mul_sub]; omega) (by omega) (by omega)]
    decide
  · show 1 - α = (p * (2 * N') - 1 - A) / p % 2
    have e : p * (2 * (N' - 1 - A') + (1 - α)) = p * (2 * N') - p * (2 * A') - p * α - p := by
      rw [Int.mul_add, Int.mul_sub 2, Int.mul_sub 2, Int.mul_sub p, Int.mul_sub p, Int.mul_sub p]
      omega
    rw [bit_at (u := N' - 1 - A') (k := 1 - α) (r := p - 1 - a) hp (by rw [e]; omega) (by omega) (by omega)]
    rcases ba with rfl | rfl <;> decide
  · show Builtin.bitXor (1 - α) c = (-A) / p % 2
    obtain ⟨r, er, r0, r1⟩ : ∃ r, -a = r - p * (1 - c) ∧ 0 ≤ r ∧ r < p := h
    have e : p * (2 * (-A') + (-α - 1 + c)) = -(p * (2 * A')) - p * α - p * (1 - c) := by
      rw [Int.mul_add, Int.mul_neg, Int.mul_neg, Int.mul_sub, Int.mul_add, Int.mul_sub, Int.mul_neg]
      omega
    rw [bit_at (u := -A') (k := -α - 1 + c) (r := r) hp (by rw [e]; omega) r0 r1]
    rcases ba with rfl | rfl <;> rcases hc with rfl | rfl <;> decide
  · show c = (A + A) / p % 2
    obtain ⟨r, er, r0, r1⟩ : ∃ r, a + a = p * c + r ∧ 0 ≤ r ∧ r < p := h
    have e : p * (2 * (2 * A' + α) + c) = 2 * (p * (2 * A')) + 2 * (p * α) + p * c := by
      rw [Int.mul_add, Int.mul_left_comm, Int.mul_add p]
      omega
    rw [bit_at (u := 2 * A' + α) (k := c) (r := r) hp (by rw [e]; omega) r0 r1, bit_val hc]
  · show Builtin.bitAnd α β = Builtin.bitAnd A B / p % 2
    rw [land]
  · show Builtin.bitOr α β = Builtin.bitOr A B / p % 2
    rw [lor]
  · show Builtin.bitXor α β = Builtin.bitXor A B / p % 2
    rw [lxor]
  · show Builtin.bitXor (Builtin.bitXor α β) c = (A + B) / p % 2
    obtain ⟨r, er, r0, r1⟩ : ∃ r, a + b = p * c + r ∧ 0 ≤ r ∧ r < p := h
    have e : p * (2 * (A' + B') + (α + β + c)) = p * (2 * A') + p * (2 * B') + p * α + p * β + p * c := by
      rw [Int.mul_add 2, Int.mul_add, Int.mul_add p, Int.mul_add p, Int.mul_add p]
      omega
    rw [bit_at (u := A' + B') (k := α + β + c) (r := r) hp (by rw [e]; omega) r0 r1]
    rcases ba with rfl | rfl <;> rcases bb with rfl | rfl <;> rcases hc with rfl | rfl <;> decide
  · show Builtin.bitXor (Builtin.bitXor α β) c = (A - B) / p % 2
    obtain ⟨r, er, r0, r1⟩ : ∃ r, a - b = r - p * c ∧ 0 ≤ r ∧ r < p := h
    have e : p * (2 * (A' - B') + (α - β - c)) = p * (2 * A') - p * (2 * B') + p * α - p * β - p * c := by
      rw [Int.mul_sub 2, Int.mul_add, Int.mul_sub p, Int.mul_sub p, Int.mul_sub p]
      omega
    rw [bit_at (u := A' - B') (k := α - β - c) (r := r) hp (by rw [e]; omega) r0 r1]
    rcases ba with rfl | rfl <;> rcases bb with rfl | rfl <;> rcases hc with rfl | rfl <;> decide
theorem bit_mod {V : Int} {t n : Nat} (h : t < n) : bitA t (V % 2 ^ n) = bitA t V := by
  obtain ⟨N', hN⟩ : ∃ N' : Int, (2 : Int) ^ n = 2 ^ t * (2 * N') := by
    refine ⟨2 ^ (n - t - 1), ?_⟩
    rw [show n = t + 1 + (n - t - 1) by omega, Int.pow_add, Int.pow_succ, Int.mul_assoc]
    congr 3
    omega
  have hp := pw_pos t
  have e := Int.mul_ediv_add_emod V (2 ^ n)
  have e1 := Int.mul_ediv_add_emod (V % 2 ^ n) (2 ^ t)
  have r0 := Int.emod_nonneg (V % 2 ^ n) (show (2 : Int) ^ t ≠ 0 by omega)
  have r1 := Int.emod_lt_of_pos (V % 2 ^ n) hp
  unfold bitA
  have z : V / 2 ^ t % 2 = (V % 2 ^ n / 2 ^ t) % 2 := by
    refine bit_at (u := N' * (V / 2 ^ n)) (k := V % 2 ^ n / 2 ^ t) (r := V % 2 ^ n % 2 ^ t) hp ?_ r0 r1
    have e2 : (2 : Int) ^ t * (2 * (N' * (V / 2 ^ n))) = 2 ^ n * (V / 2 ^ n) := by rw [hN, Int.mul_assoc, Int.mul_assoc]
    rw [Int.mul_add, e2]
    omega
  exact z.symm
theorem vals_pre {N : Int} : ∀ (ds : List Deed) (t : List Int), (vals N ds t).take t.length = t
  | [], t => List.take_length
  | d :: ds, t => by
    have h := vals_pre ds (t ++ [dval N d t]) (N := N)
    show (vals N ds (t ++ [dval N d t])).take t.length = t
    have h2 : ((vals N ds (t ++ [dval N d t])).take (t ++ [dval N d t]).length).take t.length = t := by
      rw [h]
      exact List.take_left
    rw [List.take_take, List.length_append, Nat.min_eq_left (by omega)] at h2
    exact h2
theorem vals_at {N : Int} {ds : List Deed} {xs : List Int} (i : Nat) (hi : i ≤ ds.length) : vals N (ds.take i) xs = (vals N ds xs).take (xs.length + i) := by
  have e : vals N ds xs = vals N (ds.drop i) (vals N (ds.take i) xs) := by rw [← vals_append, List.take_append_drop]
  have l : (vals N (ds.take i) xs).length = xs.length + i := by rw [vals_len, List.length_take, Nat.min_eq_left hi]
  rw [e, ← l, vals_pre]
theorem ix_lt {d : Deed} {n : Nat} (h : DeedOk n d) (hn : 1 ≤ n) (k : Nat) : (d.2.getD k 0).toNat < n := by
  rw [List.getD_eq_getElem?_getD]
  cases e : d.2[k]? with
  | none => exact hn
  | some i =>
    obtain ⟨h0, h1⟩ := h.ahead i (List.mem_of_getElem? e)
    show i.toNat < n
    omega
theorem arg_map {d : Deed} {told : List Int} (f : Int → Int) (h : DeedOk told.length d) (hn : 1 ≤ told.length) (k : Nat) : argAt d (told.map f) k = f (argAt d told k) := by
  have hi := ix_lt h hn k
  unfold argAt
  generalize (d.2.getD k 0).toNat = j at hi
  rw [List.getD_eq_getElem?_getD, List.getD_eq_getElem?_getD, List.getElem?_map, List.getElem?_eq_getElem hi]
  rfl
theorem arg_take {d : Deed} {v : List Int} {n : Nat} (h : DeedOk n d) (hn : 1 ≤ n) (hv : n ≤ v.length) (k : Nat) : argAt d (v.take n) k = argAt d v k := by
  have hi := ix_lt h hn k
  unfold argAt
  generalize (d.2.getD k 0).toNat = j at hi
  rw [List.getD_eq_getElem?_getD, List.getD_eq_getElem?_getD, List.getElem?_take, if_pos hi]
/-- the carries into bit t -/
structure CIs (v : List Int) (t : Nat) (ds : List Deed) (cs : List Int) : Prop where
  len : cs.length = ds.length
  each : ∀ (k : Nat) d c, ds[k]? = some d → cs[k]? = some c → CI d.1 (argAt d v 0) (argAt d v 1) (2 ^ t) c ∧ Bit c
theorem cis_first (v : List Int) (ds : List Deed) : CIs v 0 ds (ds.map fcD) where
  len := List.length_map ..
  each := fun k d c hd hc => by
    rw [List.getElem?_map, hd] at hc
    obtain rfl := Option.some.inj hc
    refine ⟨ci_first d _ _, ?_⟩
    unfold fcD
    split
    · exact bit1
    · exact bit0
theorem cis_bits {m n t : Nat} {ds : List Deed} {xs cs : List Int} (ok : DsOk m ds) (hm : xs.length = m) (m1 : 1 ≤ m) (hx : ∀ x ∈ xs, 0 ≤ x ∧ x < 2 ^ n) (ht : t < n) (h : CIs (vals (2 ^ n) ds xs) t ds cs) : bts ds cs (xs.map (bitA t)) = (vals (2 ^ n) ds xs).map (bitA t) := by
  have vr := vals_range (pw_pos n) ds xs hx
  have vl := vals_len (size := 2 ^ n) ds xs
  have key : ∀ i, i ≤ ds.length → bts (ds.take i) (cs.take i) (xs.map (bitA t)) = ((vals (2 ^ n) ds xs).take (xs.length + i)).map (bitA t) := by
    intro i
    induction i with
    | zero =>
      intro _
      rw [Nat.add_zero, vals_pre]
      cases ds <;> rfl
    | succ i ih =>
      intro hi
      have hd : ds[i]? = some ds[i] := List.getElem?_eq_getElem (by omega)
      have hc : cs[i]? = some (cs[i]'(by rw [h.len]; omega)) := List.getElem?_eq_getElem _
      obtain ⟨h1, h2⟩ := h.each i _ _ hd hc
      generalize ds[i] = d at hd h1
      generalize cs[i]'(by rw [h.len]; omega) = c at hc h1 h2
      have okd : DeedOk ((xs.length + i : Nat) : Int) d := by
        have := ok.each i d hd
        rw [hm]
        have e : ((m + i : Nat) : Int) = (m : Int) + (i : Int) := by omega
        rw [e]
        exact this
      have pl : ((vals (2 ^ n) ds xs).take (xs.length + i)).length = xs.length + i := by
        rw [List.length_take, vl]
        omega
      rw [bts_next hd hc, ih (by omega), ← vals_at (i + 1) hi, vals_next hd, vals_at i (by omega), List.map_append]
      congr 1
      show [dbitAt d c _] = [bitA t (dval (2 ^ n) d _)]
      unfold dbitAt dval
      rw [arg_map _ (by rw [pl]; exact okd) (by omega), arg_map _ (by rw [pl]; exact okd) (by omega), arg_take okd (by omega) (by omega), arg_take okd (by omega) (by omega), bit_mod ht]
      rw [dbit_tells (List.mem_map.mpr ⟨_, okd.word, rfl⟩) ht (arg_nn (fun x hx => (vr x hx).1) d 0) (arg_nn (fun x hx => (vr x hx).1) d 1) h2 h1]
  have e := key ds.length (Nat.le_refl _)
  rw [List.take_length, ← h.len, List.take_length, h.len, ← vl, List.take_length] at e
  exact e
theorem cis_next {m n t : Nat} {ds : List Deed} {xs cs : List Int} (ok : DsOk m ds) (hm : xs.length = m) (m1 : 1 ≤ m) (h : CIs (vals (2 ^ n) ds xs) t ds cs) : CIs (vals (2 ^ n) ds xs) (t + 1) ds (nxt ds cs ((vals (2 ^ n) ds xs).map (bitA t))) where
  len := nxt_len h.len.symm
  each := fun k d c hd hc => by
    unfold nxt at hc
    rw [List.getElem?_zipWith, hd] at hc
    cases e : cs[k]? with
    | none => rw [e] at hc; simp at hc
    | some c0 =>
      rw [e] at hc
      obtain rfl : dcarAt d c0 ((vals (2 ^ n) ds xs).map (bitA t)) = c := by simpa using hc
      obtain ⟨h1, h2⟩ := h.each k d c0 hd e
      have kl := (List.getElem?_eq_some_iff.mp hd).1
      have okd : DeedOk (vals (2 ^ n) ds xs).length d := by
        rw [vals_len]
        refine ⟨(ok.each k d hd).word, fun i hi => ?_⟩
        have := (ok.each k d hd).ahead i hi
        omega
      have l1 : 1 ≤ (vals (2 ^ n) ds xs).length := by
        rw [vals_len]
        omega
      unfold dcarAt
      rw [arg_map _ okd l1, arg_map _ okd l1]
      refine ⟨?_, dcar_bit (bitA_bit _ _) (bitA_bit _ _) h2⟩
      rw [Int.pow_succ, Int.mul_comm]
      exact ci_next (pw_pos t) h2 h1
/-- the carry come to by the words' bits -/
def crry (ds : List Deed) (xs : List Int) : Nat → List Int
  | 0 => ds.map fcD
  | t + 1 => nxt ds (crry ds xs t) (bts ds (crry ds xs t) (xs.map (bitA t)))
theorem crry_ok {m n : Nat} {ds : List Deed} {xs : List Int} (ok : DsOk m ds) (hm : xs.length = m) (m1 : 1 ≤ m) (hx : ∀ x ∈ xs, 0 ≤ x ∧ x < 2 ^ n) : ∀ t, t ≤ n → CIs (vals (2 ^ n) ds xs) t ds (crry ds xs t)
  | 0, _ => cis_first _ ds
  | t + 1, h => by
    have ih := crry_ok ok hm m1 hx t (by omega)
    show CIs _ (t + 1) ds (nxt ds (crry ds xs t) (bts ds (crry ds xs t) (xs.map (bitA t))))
    rw [cis_bits ok hm m1 hx (by omega) ih]
    exact cis_next ok hm m1 ih
theorem crry_bits {m n t : Nat} {ds : List Deed} {xs : List Int} (ok : DsOk m ds) (hm : xs.length = m) (m1 : 1 ≤ m) (hx : ∀ x ∈ xs, 0 ≤ x ∧ x < 2 ^ n) (ht : t < n) : bts ds (crry ds xs t) (xs.map (bitA t)) = (vals (2 ^ n) ds xs).map (bitA t) :=
  cis_bits ok hm m1 hx ht (crry_ok ok hm m1 hx t (by omega))
inductive Rch (m : Nat) (ds : List Deed) : List Int → Prop
  | first : Rch m ds (ds.map fcD)
  | next {c bs : List Int} : Rch m ds c → bs.length = m → (∀ x ∈ bs, Bit x) → Rch m ds (nxt ds c (bts ds c bs))
theorem crry_rch (ds : List Deed) (xs : List Int) : ∀ t, Rch xs.length ds (crry ds xs t)
  | 0 => .first
  | t + 1 => .next (crry_rch ds xs t) (List.length_map ..) fun x hx => by
    obtain ⟨y, _, rfl⟩ := List.mem_map.mp hx
    exact bitA_bit t y
/-- bits, none where nothing carries -/
def Shp : List Deed → List Int → Prop
  | [], [] => True
  | d :: ds, c :: cs => Bit c ∧ (d.1 ∉ twC → c = 0) ∧ Shp ds cs
  | _, _ => False
theorem Shp.len : ∀ {ds : List Deed} {cs : List Int}, Shp ds cs → cs.length = ds.length
  | [], [], _ => rfl
  | [], _ :: _, h => h.elim
  | _ :: _, [], h => h.elim
  | _ :: _, _ :: _, h => congrArg (· + 1) (Shp.len h.2.2)
theorem Shp.bits : ∀ {ds : List Deed} {cs : List Int}, Shp ds cs → ∀ c ∈ cs, Bit c
  | [], [], _ => (fun _ z => nomatch z)
  | [], _ :: _, h => h.elim
  | _ :: _, [], h => h.elim
  | _ :: _, _ :: _, h => fun c hc => by
    rcases List.mem_cons.mp hc with rfl | hc
    · exact h.1
    · exact Shp.bits h.2.2 c hc
theorem calm_first {d : Deed} (h : d.1 ∉ twC) : fcD d = 0 := by
  unfold fcD
  rw [if_neg]
  intro z
  simp only [List.mem_cons, List.not_mem_nil, or_false] at z
  simp only [twC, List.mem_cons, List.not_mem_nil, or_false, not_or] at h
  rcases z with z | z
  · exact h.2.2.2.1 z
  · exact h.2.2.2.2 z
theorem calm_car {x : Str} (h : x ∉ twC) (a b c : Int) : dcar x a b c = 0 := by
  simp only [twC, List.mem_cons, List.not_mem_nil, or_false, not_or] at h
  obtain ⟨h1, h2, h3, h4, h5⟩ := h
  unfold dcar
  rw [if_neg h4, if_neg h3, if_neg h1, if_neg h2]
theorem shp_first : ∀ ds : List Deed, Shp ds (ds.map fcD)
  | [] => trivial
  | d :: ds => ⟨(by unfold fcD; split; exact bit1; exact bit0), calm_first, shp_first ds⟩
theorem shp_nxt {told : List Int} (hb : ∀ x ∈ told, Bit x) : ∀ {ds : List Deed} {cs : List Int}, Shp ds cs → Shp ds (nxt ds cs told)
  | [], [], _ => trivial
  | [], _ :: _, h => h.elim
  | _ :: _, [], h => h.elim
  | d :: ds, c :: cs, h => ⟨dcar_bit (argAt_bit hb d 0) (argAt_bit hb d 1) h.1, fun z => calm_car z _ _ _, shp_nxt hb h.2.2⟩
theorem rch_shp {m : Nat} {ds : List Deed} : ∀ {c : List Int}, Rch m ds c → Shp ds c := by
  intro c h
  induction h with
  | first => exact shp_first ds
  | next h hl hb ih => exact shp_nxt (bts_bits hb ih.bits) ih
theorem pigeon {α : Type} [DecidableEq α] : ∀ (l D : List α), l.Nodup → (∀ x ∈ l, x ∈ D) → l.length ≤ D.length
  | [], _, _, _ => Nat.zero_le _
  | x :: l, D, nd, h => by
    rw [List.nodup_cons] at nd
    have hx := h x List.mem_cons_self
    have ih := pigeon l (D.erase x) nd.2 fun y hy => (List.mem_erase_of_ne (fun e : y = x => nd.1 (by rw [← e]; exact hy))).mpr (h y (List.mem_cons_of_mem _ hy))
    rw [List.length_erase_of_mem hx] at ih
    have := List.length_pos_of_mem hx
    rw [List.length_cons]
    omega
theorem walk_gen {J : It} {n : Nat} {G : Hp → Prop} {Y : Nat → Hp → V → Hp → Prop} (w : Walk J n G Y) {g : TG} {σ0 : L2.St} {B : (Hp → Prop) → L2.St → Hp → Prop} {H0 : Hp} {Qd : Hp → Prop} (Pv : Nat → Hp → Prop) (h0 : Pv 0 H0)
    (hG : ∀ i H, i ≤ n → Pv i H → G H) (hs : ∀ i x H H', i < n → Pv i H → Y i H x H' → g x σ0 H' fun σ2 H2 => B (Pv (i + 1)) σ2 H2) (hd : ∀ H, Pv n H → Qd H) :
    ∃ W : Nat → Nat → Hp → Prop, (∃ m, W 0 m H0) ∧ ∀ i m H, W i m H → (J.stop i H ∧ Qd H) ∨ (J.go i H ∧ ∃ Nx : Hp → Prop, (∀ H', Nx H' → ∃ m', m' < m ∧ W (i + 1) m' H') ∧ ∀ x H', J.yld i H x H' → g x σ0 H' fun σ2 H2 => B Nx σ2 H2) := by
  refine ⟨fun i m H => m = n - i ∧ i ≤ n ∧ Pv i H, ⟨n, by simp, Nat.zero_le _, h0⟩, ?_⟩
  rintro i m H ⟨rfl, hi, q⟩
  by_cases lt : i < n
  · exact .inr ⟨w.goes i H lt (hG i H hi q), Pv (i + 1), fun H' z => ⟨n - (i + 1), by omega, rfl, lt, z⟩, fun x H' y => hs i x H H' lt q (w.yields i H x H' lt (hG i H hi q) y)⟩
  · obtain rfl : i = n := by omega
    exact .inl ⟨w.stops H (hG i H hi q), hd H q⟩
def ext2 (l : List (List Int)) : List (List Int) := l.flatMap fun b => [b ++ [0], b ++ [1]]
def allB : Nat → List (List Int)
  | 0 => [[]]
  | m + 1 => ext2 (allB m)
theorem ext2_len (l : List (List Int)) : (ext2 l).length = 2 * l.length := by
  unfold ext2
  induction l with
  | nil => rfl
  | cons b l ih => rw [List.flatMap_cons, List.length_append, ih, List.length_cons]; simp; omega
theorem allB_len : ∀ m, (allB m).length = 2 ^ m
  | 0 => rfl
  | m + 1 => by
    show (ext2 (allB m)).length = _
    rw [ext2_len, allB_len m, Nat.pow_succ]
    omega
theorem allB_ok : ∀ m, ∀ bs ∈ allB m, bs.length = m ∧ ∀ x ∈ bs, Bit x
  | 0, bs, h => by
    rw [List.mem_singleton.mp h]
    exact ⟨rfl, (fun _ z => nomatch z)⟩
  | m + 1, bs, h => by
    obtain ⟨b, hb, h2⟩ := List.mem_flatMap.mp h
    obtain ⟨h3, h4⟩ := allB_ok m b hb
    simp only [List.mem_cons, List.not_mem_nil, or_false] at h2
    rcases h2 with rfl | rfl
    · refine ⟨by rw [List.length_append, h3]; rfl, fun x hx => ?_⟩
      rcases List.mem_append.mp hx with hx | hx
      · exact h4 x hx
      · rw [List.mem_singleton.mp hx]
        exact bit0
    · refine ⟨by rw [List.length_append, h3]; rfl, fun x hx => ?_⟩
      rcases List.mem_append.mp hx with hx | hx
      · exact h4 x hx
      · rw [List.mem_singleton.mp hx]
        exact bit1
theorem allB_all : ∀ m, ∀ bs : List Int, bs.length = m → (∀ x ∈ bs, Bit x) → bs ∈ allB m
  | 0, bs, h, _ => by
    rw [List.eq_nil_of_length_eq_zero h]
    exact List.mem_cons_self
  | m + 1, bs, h, hb => by
    have hne : bs ≠ [] := fun e => by rw [e] at h; simp at h
    have e := List.dropLast_concat_getLast hne
    have h1 : bs.dropLast ∈ allB m := allB_all m _ (by rw [List.length_dropLast, h]; rfl) fun x hx => hb x ((List.dropLast_sublist bs).subset hx)
    refine List.mem_flatMap.mpr ⟨_, h1, ?_⟩
    rcases hb _ (List.getLast_mem hne) with z | z
    · rw [z] at e
      exact List.mem_cons.mpr (.inl e.symm)
    · rw [z] at e
      exact List.mem_cons.mpr (.inr (List.mem_singleton.mpr e.symm))
/-- tuples of ints -/
abbrev TAt (H : Hp) : List Addr → List (List Int) → Prop := Paired fun f bs => H f = some (.tup (bs.map V.int))
theorem tat_stay {H H' : Hp} (t : TupsStay H H') {fs : List Addr} {l : List (List Int)} (h : TAt H fs l) : TAt H' fs l := awMap (fun f b e => t f _ e) h
def spAll : Sp := fun vs H Q _ => ∃ m : Nat, vs = [.int (m : Int)] ∧ m ≤ 3 ∧ ∀ H' p fs, Same H H' → H p = none → H' p = some (.lst (fs.map V.ref)) → TAt H' fs (allB m) → Q (.ref p) H'
theorem ok_all {f : Addr} {fd : FuncData} {k : Nat} (F : Fun K "all_bits" "all_bits" s_all_bits f fd) (mr : mg "range" = none) : FnOk P w K mg base CX0 (k + 1) f fd ["many"] spAll := by
  refine F.ok sc_all_bits (fun vs H Q E h => ?_) (fun cdv A outer s H vs Q E hr h => ?_)
  · obtain ⟨m, rfl, _⟩ := h
    rfl
  · obtain ⟨m, rfl, m3, q⟩ := h
    refine ⟨_, pss_cons (ps_set (i := 1) sc_all_bits.nd rfl (.inl rfl) (pe_lst (pa_cons (pe_tup pa_nil) pa_nil)))
      (pss_cons (ps_for PassesOwn.never rfl (pi_range1 (by rfl) mr (pa_cons (pv 0) pa_nil)) (pg_name (i := 2) sc_all_bits.nd rfl (.inl rfl))
        (pss_one (ps_setLc2 (i := 1) (own := [("bits", 3), ("bit", 4)]) (vs1 := [4]) (g := gName 3) (g1 := gName 4) (wi1 := iTup K (tTup (tCons (tC (.int 0)) (tCons (tC (.int 1)) tNil)))) (by rfl) sc_all_bits.nd rfl rfl (sw_true rfl rfl rfl (by decide +kernel)) (pi_list (pv 1)) (blkOk_by (own := [("bits", 3), ("bit", 4)]) (N := N_all_bits) (sc := defScope s_all_bits) (by decide +kernel)) (by decide)
          (fun _ _ _ _ _ => pg_name (i := 3) sc_all_bits.nd rfl (Or.inl rfl)) (fun _ _ _ _ _ => pts_nil) (fun _ _ _ _ _ => pi_tup (pe_tup (pa_cons pe_int (pa_cons pe_int pa_nil))))
          (fun _ _ _ _ _ => pg_name (i := 4) sc_all_bits.nd rfl (Or.inl rfl)) (fun _ _ _ _ _ => pts_nil) (fun _ _ _ _ _ => pe_op op_catZ (pv 3) (pe_tup (pa_cons (pv 4) pa_nil))))))
      (pss_one (ps_ret (pv 1)))), ?_⟩
    refine ⟨by show 0 ≤ sizeLine; decide, fun T hT => ⟨by show 1 ≤ sizeLine; decide, fun L hL => ?_⟩⟩
    have s1 := same_new (o := .tup []) hT
    have s2 := same_new (o := .lst [.ref T]) hL
    refine ⟨.int m, rfl, m, rfl, by omega, by omega, for_range (lo := 0) (n := m) (fun i σ H3 => ∃ y2 F1 fs, σ = [some (.int (m : Int)), some (.ref F1), y2, none, none] ∧ H F1 = none ∧ H3 F1 = some (.lst (fs.map V.ref)) ∧ TAt H3 fs (allB i) ∧ Same H H3) ⟨none, L, [T], rfl, s1.free hL, upd_same, .cons (s2 _ _ upd_same) .nil, s1.trans s2⟩ (fun i σ H3 hi hp => ?_) (fun σ H3 hp => ?_)⟩
    · obtain ⟨y2, F1, fs, rfl, nF, eF, hf, sm⟩ := hp
      have fl : fs.length ≤ 8 := by
        rw [awLen hf, allB_len]
        exact Nat.le_trans (Nat.pow_le_pow_right (by decide) (show i ≤ 3 by omega)) (by decide)
      refine ⟨.ref F1, rfl, F1, rfl, ⟨_, .inl (.inl eF)⟩, fun M hM => ?_⟩
      refine walk_gen (walk_list (K := K) (a := F1) (xs := fs.map V.ref)) (fun j H4 => ∃ gs, H4 M = some (.lst (gs.map V.ref)) ∧ TAt H4 gs (ext2 ((allB i).take j)) ∧ Same H3 H4) ⟨[], upd_same, .nil, same_new hM⟩ (fun j H4 _ hp => ?_) (fun j x H4 H5 hj hp hy => ?_) (fun H4 hp => ?_)
      · obtain ⟨_, _, _, s4⟩ := hp
        exact .inl (.inl (s4 _ _ eF))
      · obtain ⟨gs, eM, hg, s4⟩ := hp
        obtain ⟨rfl, hx⟩ := hy
        have hj2 : j < fs.length := by rwa [List.length_map] at hj
        have hx' : x = .ref fs[j] := by
          rw [List.getElem?_map, List.getElem?_eq_getElem hj2] at hx
          exact (Option.some.inj hx).symm
        subst hx'
        obtain ⟨b, hb1, hb2⟩ := awGet hf (List.getElem?_eq_getElem hj2)
        have bl : b.length = i := (allB_ok i b (List.mem_of_getElem? hb1)).1
        refine ⟨rfl, by show 2 ≤ sizeLine; decide, fun U hU => ?_⟩
        have sU := same_new (o := .tup [.int 0, .int 1]) hU
        refine ⟨U, rfl, ⟨_, SqT.of upd_same⟩, ?_⟩
        refine walk_gen (walk_tup (K := K) (a := U) (xs := [.int 0, .int 1])) (fun t H6 => ∃ gs, H6 M = some (.lst (gs.map V.ref)) ∧ TAt H6 gs (ext2 ((allB i).take j) ++ [b ++ [0], b ++ [1]].take t) ∧ TupsStay (upd H5 U (.tup [.int 0, .int 1])) H6 ∧ Same H3 H6) ⟨gs, sU _ _ eM, (by rw [List.take_zero, List.append_nil]; exact tat_stay (Same.tups sU) hg), (fun _ _ e => e), s4.trans sU⟩ (fun t H6 _ hp => ?_) (fun t x H6 H7 ht hp hy => ?_) (fun H6 hp => ?_)
        · obtain ⟨_, _, _, t6, _⟩ := hp
          exact SqT.of (t6 _ _ upd_same)
        · obtain ⟨gs, eM6, hg6, t6, s6⟩ := hp
          obtain ⟨rfl, hx⟩ := hy
          obtain ⟨z, rfl, hz⟩ : ∃ z : Int, x = .int z ∧ [b ++ [0], b ++ [1]].take (t + 1) = [b ++ [0], b ++ [1]].take t ++ [b ++ [z]] := by
            have ht2 : t = 0 ∨ t = 1 := by
              have : t < 2 := ht
              omega
            rcases ht2 with rfl | rfl
            · exact ⟨0, (Option.some.inj hx).symm, rfl⟩
            · exact ⟨1, (Option.some.inj hx).symm, rfl⟩
          have eb := s6 _ _ (hb2)
          refine ⟨rfl, .ref fs[j], rfl, .int z, rfl, by show 1 ≤ sizeLine; decide, fun U2 hU2 => ?_⟩
          have sU2 := same_new (o := .tup [.int z]) hU2
          refine ⟨fs[j], U2, _, _, rfl, rfl, sU2 _ _ eb, upd_same, by rw [List.length_map]; exact Nat.le_of_lt (small1000 (by show b.length + 1 ≤ 1000; omega)), fun p H8 s8 ep => ?_⟩
          have s78 := sU2.trans s8
          have eM8 := s78 _ _ eM6
          have gl := awLen hg6
          have gl2 : gs.length ≤ 18 := by
            rw [gl, List.length_append, ext2_len, List.length_take]
            have e1 : (allB i).length = fs.length := (awLen hf).symm
            have e2 : ([b ++ [0], b ++ [1]].take t).length ≤ 2 := by
              rw [List.length_take]
              exact Nat.min_le_right _ _
            omega
          have tp := tups_put (o := .lst (gs.map V.ref ++ [V.ref p])) eM8
          refine ⟨_, eM8, by rw [List.length_map]; exact small1000 (by omega), gs ++ [p], ?_, ?_, ?_, ?_⟩
          · rw [upd_same, List.map_append]
            rfl
          · rw [hz, ← List.append_assoc]
            refine tat_stay tp (awSnoc (F := fun f (bs : List Int) => H8 f = some (.tup (bs.map V.int))) ?_ (tat_stay (Same.tups s78) hg6))
            rw [ep, List.map_append]
            rfl
          · exact (t6.trans (Same.tups s78)).trans tp
          · intro c u e
            rw [upd_ne (ne_of_none e hM)]
            exact s78 c u (s6 c u e)
        · obtain ⟨gs, eM6, hg6, t6, s6⟩ := hp
          refine ⟨gs, eM6, ?_, s6⟩
          have e1 : ext2 ((allB i).take (j + 1)) = ext2 ((allB i).take j) ++ [b ++ [0], b ++ [1]] := by
            rw [List.take_add_one, hb1]
            unfold ext2
            rw [List.flatMap_append]
            rfl
          rw [e1]
          exact hg6
      · obtain ⟨gs, eM, hg, s4⟩ := hp
        refine ⟨some (.int (0 + i)), M, gs, rfl, sm.free hM, eM, ?_, sm.trans s4⟩
        rw [List.length_map, awLen hf, List.take_length] at hg
        exact hg
    · obtain ⟨y2, F1, fs, rfl, nF, eF, hf, sm⟩ := hp
      exact ⟨.ref F1, rfl, q _ F1 fs sm nF eF hf⟩
def spCb : Sp := fun vs H Q _ => ∃ (R C T : Addr) (m o : Int) (ds : List Deed) (cs told : List Int), vs = [.ref R, .ref C, .ref T] ∧ RowAt H R m ds o ∧ DsOk m ds ∧ ds.length ≤ 100 ∧ H C = some (.tup (cs.map V.int)) ∧ cs.length = ds.length ∧ H T = some (.tup (told.map V.int)) ∧ (told.length : Int) = m + ds.length ∧
  ∀ H' p, Same H H' → H p = none → H' p = some (.tup ((nxt ds cs told).map V.int)) → Q (.ref p) H'
theorem ok_cb {f fC : Addr} {fd fdC : FuncData} {k : Nat} (F : Fun K "carry_behind" "carry_behind" s_carry_behind f fd)
    (GC : FnOk P w K mg base CX0 (k + 2) fC fdC ["deed", "held", "told"] spDc) (kC : PySem.W.keepIn K (.ref fC) = true) (bC : Binds K fdC ["deed", "held", "told"] []) (gC : mg "deed_carry" = some (.ref fC)) (mt : mg "tuple" = none) (mz : mg "zip" = none) : FnOk P w K mg base CX0 (k + 3) f fd ["row", "carry", "told"] spCb := by
  refine F.ok sc_carry_behind (fun vs H Q E h => ?_) (fun cdv A outer s H vs Q E hr h => ?_)
  · obtain ⟨R, C, T, m, o, ds, cs, told, rfl, _⟩ := h
    rfl
  · obtain ⟨R, C, T, m, o, ds, cs, told, rfl, hrow, hok, hds, eC, hcl, eT, htl, q⟩ := h
    obtain ⟨D, rs, eR, eD, hd⟩ := id hrow
    refine ⟨_, pss_one (ps_ret (pe_callTy call_tuple_of (by rfl) mt (by decide +kernel) (pa_cons
        (pe_lc (own := [("deed", 3), ("held", 4)]) (g := gTup K 2 (gCons (gName 3) (gCons (gName 4) gNil))) (by rfl) sc_carry_behind.nd (RZ.pi_zipA (by rfl) mz (pa_cons (pe_ix ix_tup (pv 0) pe_int (fun _ _ => rfl)) (pa_cons (pv 1) pa_nil))) (blkOk_by (own := [("deed", 3), ("held", 4)]) (N := N_carry_behind) (sc := defScope s_carry_behind) (by decide +kernel))
          (fun _ _ _ _ _ => pg_tup rfl (pgs_cons (pg_name (i := 3) sc_carry_behind.nd rfl (.inl rfl)) (pgs_cons (pg_name (i := 4) sc_carry_behind.nd rfl (.inl rfl)) pgs_nil))) (fun _ _ _ _ _ => pts_nil)
          (fun _ _ _ _ _ => pe_call GC hr (by rfl) gC kC bC .nil pass0 (pa_cons (pv 3) (pa_cons (pv 4) (pa_cons (pv 2) pa_nil))))) pa_nil))), ?_⟩
    have lrs : (rs.map V.ref).length = ds.length := by rw [List.length_map, awLen hd]
    have lcs : (cs.map V.int).length = ds.length := by rw [List.length_map, hcl]
    refine ⟨.ref R, rfl, R, _, 1, .ref D, rfl, rfl, SqT.of eR, rfl, .ref C, rfl, D, C, _, _, rfl, .inr ⟨SqT.of eD, SqT.of eC, fun L hL => ?_⟩⟩
    refine lc_it (walk_zipT (K := K) (a := D) (b := C) (xs := rs.map V.ref) (ys := cs.map V.int) (lrs.trans lcs.symm)) (fun i H4 => H4 L = some (.lst (((nxt ds cs told).take i).map V.int)) ∧ Same H H4) ⟨upd_same, same_new hL⟩ (fun i H4 _ hp => ⟨SqT.of (hp.2 _ _ eD), SqT.of (hp.2 _ _ eC)⟩) (fun i x H4 H5 hi hp hy => ?_) (fun H4 hp => ?_)
    · obtain ⟨eL, sm⟩ := hp
      obtain ⟨U, x1, x2, rfl, hU, rfl, g1, g2⟩ := hy
      have hi2 : i < rs.length := by rwa [List.length_map] at hi
      have hx' : x1 = .ref rs[i] := by
        have g1' : (rs.map V.ref)[i]? = some x1 := g1
        rw [List.getElem?_map, List.getElem?_eq_getElem hi2] at g1'
        exact (Option.some.inj g1').symm
      subst hx'
      obtain ⟨d, hd1, hd2⟩ := awGet hd (List.getElem?_eq_getElem hi2)
      obtain ⟨c, hc, rfl⟩ : ∃ c, cs[i]? = some c ∧ x2 = .int c := by
        have g2' : (cs.map V.int)[i]? = some x2 := g2
        rw [List.getElem?_map] at g2'
        cases e : cs[i]? with
        | none => rw [e] at g2'; cases g2'
        | some c => rw [e] at g2'; exact ⟨c, rfl, (Option.some.inj g2').symm⟩
      have h2 : i < ds.length := by
        rw [← awLen hd]
        exact hi2
      have okd : DeedOk told.length d := okd_more (hok.each i d hd1) (by omega)
      have sU := same_new (o := .tup [.ref rs[i], .int c]) hU
      refine ⟨U, [.ref rs[i], .int c], rfl, .inl (.inl upd_same), rfl, .ref rs[i], [.int c], rfl, .int c, [], rfl, rfl, rfl, ?_⟩
      refine ⟨.ref rs[i], rfl, .int c, rfl, .ref T, rfl, rs[i], T, d, _, c, rfl, sU _ _ (sm _ _ hd2), sU _ _ (sm _ _ eT), okd, _, sU _ _ eL, ?_, ?_, ?_⟩
      · rw [List.length_map, List.length_take, nxt_len hcl.symm]
        exact small1000 (by omega)
      · rw [upd_same, nxt_next hd1 hc, List.map_append]
        rfl
      · intro b u e
        rw [upd_ne (ne_of_none e hL)]
        exact sU b u (sm b u e)
    · obtain ⟨eL, sm⟩ := hp
      rw [lrs, ← nxt_len (t := told) hcl.symm, List.take_length] at eL
      refine ⟨L, _, rfl, .inl ⟨.inl (.inl eL), fun p hp => ?_⟩⟩
      exact q _ p (sm.trans (same_new hp)) (sm.free hp) upd_same
/-- the steps of a carry: for all bits the bit of out and the next carry -/
def stp (m : Nat) (ds : List Deed) (o : Int) (cs : List Int) : List (Int × List Int) := (allB m).map fun bs => ((bts ds cs bs).getD o.toNat 0, nxt ds cs (bts ds cs bs))
theorem stp_len (m : Nat) (ds : List Deed) (o : Int) (cs : List Int) : (stp m ds o cs).length = 2 ^ m := by
  unfold stp
  rw [List.length_map, allB_len]
abbrev StAt (H : Hp) : List Addr → List (Int × List Int) → Prop := Paired fun q e => ∃ c, H q = some (.tup [.int e.1, .ref c]) ∧ H c = some (.tup (e.2.map V.int))
theorem stat_stay {H H' : Hp} (t : TupsStay H H') {ps : List Addr} {l : List (Int × List Int)} (h : StAt H ps l) : StAt H' ps l := awMap (fun q e z => z.elim fun c y => ⟨c, t _ _ y.1, t _ _ y.2⟩) h
def spSt : Sp := fun vs H Q _ => ∃ (R C : Addr) (m : Nat) (o : Int) (ds : List Deed) (cs : List Int), vs = [.ref R, .ref C] ∧ RowAt H R m ds o ∧ RowOk m ds o ∧ H C = some (.tup (cs.map V.int)) ∧ cs.length = ds.length ∧
  ∀ H' p ps, Same H H' → H p = none → H' p = some (.lst (ps.map V.ref)) → StAt H' ps (stp m ds o cs) → Q (.ref p) H'
theorem ok_st {f fA fB fC : Addr} {fd fdA fdB fdC : FuncData} {k : Nat} (F : Fun K "steps" "steps" s_steps f fd)
    (GA : FnOk P w K mg base CX0 (k + 1) fA fdA ["many"] spAll) (kA : PySem.W.keepIn K (.ref fA) = true) (bA : Binds K fdA ["many"] []) (gA : mg "all_bits" = some (.ref fA))
    (GB : FnOk P w K mg base CX0 (k + 2) fB fdB ["row", "carry", "bits"] spBo) (kB : PySem.W.keepIn K (.ref fB) = true) (bB : Binds K fdB ["row", "carry", "bits"] []) (gB : mg "bits_of" = some (.ref fB))
    (GC : FnOk P w K mg base CX0 (k + 3) fC fdC ["row", "carry", "told"] spCb) (kC : PySem.W.keepIn K (.ref fC) = true) (bC : Binds K fdC ["row", "carry", "told"] []) (gC : mg "carry_behind" = some (.ref fC)) : FnOk P w K mg base CX0 (k + 4) f fd ["row", "carry"] spSt := by
  refine F.ok sc_steps (fun vs H Q E h => ?_) (fun cdv A outer s H vs Q E hr h => ?_)
  · obtain ⟨R, C, m, o, ds, cs, rfl, _⟩ := h
    rfl
  · obtain ⟨R, C, m, o, ds, cs, rfl, hrow, hok, eC, hcl, q⟩ := h
    obtain ⟨D, rs, eR, eD, hd⟩ := id hrow
    have r1 := hr.mono (show k + 1 ≤ k + 3 by omega)
    have r2 := hr.mono (show k + 2 ≤ k + 3 by omega)
    refine ⟨_, pss_cons (ps_set (i := 2) sc_steps.nd rfl (.inl rfl) (pe_lst pa_nil))
      (pss_cons (ps_for PassesOwn.never rfl (pi_list (pe_call GA r1 (by rfl) gA kA bA .nil pass0 (pa_cons (pe_ix ix_tup (pv 0) pe_int (fun _ _ => rfl)) pa_nil))) (pg_name (i := 3) sc_steps.nd rfl (.inl rfl))
        (pss_cons (ps_set (i := 4) sc_steps.nd rfl (.inl rfl) (pe_call GB r2 (by rfl) gB kB bB .nil pass0 (pa_cons (pv 0) (pa_cons (pv 1) (pa_cons (pv 3) pa_nil)))))
        (pss_one (ps_expr (pe_bm PySem.F.plainAttrs_list PySem.F.slot_list_append PySem.F.type_list_append mt_append (pv 2) (pa_cons (pe_tup (pa_cons (pe_ix ix_tup (pv 4) (pe_ix ix_tup (pv 0) pe_int (fun _ _ => rfl)) (fun _ _ => rfl)) (pa_cons (pe_call GC hr (by rfl) gC kC bC .nil pass0 (pa_cons (pv 0) (pa_cons (pv 1) (pa_cons (pv 4) pa_nil)))) pa_nil))) pa_nil))))))
      (pss_one (ps_ret (pv 2)))), ?_⟩
    have m1 := hok.m1
    have m3 := hok.m3
    have l8 := hok.len
    refine ⟨Nat.zero_le _, fun L hL => ?_⟩
    have sL := same_new (o := .lst []) hL
    refine ⟨.ref R, rfl, R, _, 0, .int m, rfl, rfl, SqT.of (sL _ _ eR), rfl, m, rfl, by omega, fun H1 B fs s1 nB eB hf => ?_⟩
    have nLB : B ≠ L := fun z => by rw [z, upd_same] at nB; cases nB
    have fl : fs.length = 2 ^ m := by rw [awLen hf, allB_len]
    have f8 : fs.length ≤ 8 := by
      rw [fl]
      exact Nat.le_trans (Nat.pow_le_pow_right (by decide) (show m ≤ 3 by omega)) (by decide)
    have old : ∀ H5 o, Same H H5 → Same H (upd H5 L o) := fun H5 o s5 b u e => by
      rw [upd_ne (ne_of_none e hL)]
      exact s5 b u e
    refine ⟨B, rfl, ⟨_, .inl (.inl eB)⟩, for_list (K := K) (a := B) (xs := fs.map V.ref) (fun i σ H3 => ∃ y3 y4 ps, σ = [some (.ref R), some (.ref C), some (.ref L), y3, y4] ∧ H3 L = some (.lst (ps.map V.ref)) ∧ StAt H3 ps ((stp m ds o cs).take i) ∧ H3 B = some (.lst (fs.map V.ref)) ∧ TAt H3 fs (allB m) ∧ Same H H3)
      ⟨none, none, [], rfl, s1 _ _ upd_same, .nil, eB, hf, sL.trans s1⟩ (fun i σ H3 _ hp => ?_) (fun i x σ H3 hx hp => ?_) (fun σ H3 hp => ?_)⟩
    · obtain ⟨_, _, _, _, _, _, e, _⟩ := hp
      exact .inl (.inl e)
    · obtain ⟨y3, y4, ps, rfl, eL, hs, eB3, hf3, s3⟩ := hp
      have hi : i < fs.length := by
        have := (List.getElem?_eq_some_iff.mp hx).1
        rwa [List.length_map] at this
      have hx' : x = .ref fs[i] := by
        rw [List.getElem?_map, List.getElem?_eq_getElem hi] at hx
        exact (Option.some.inj hx).symm
      subst hx'
      obtain ⟨bs, hb1, hb2⟩ := awGet hf3 (List.getElem?_eq_getElem hi)
      obtain ⟨bl, bb⟩ := allB_ok m bs (List.mem_of_getElem? hb1)
      refine ⟨.ref R, rfl, .ref C, rfl, .ref fs[i], rfl, R, C, fs[i], m, o, ds, cs, bs, rfl, (Same.tups s3).row hrow, hok.deeds, by omega, s3 _ _ eC, hcl, hb2, by rw [bl], by omega, fun H4 T s4 nT eT => ?_⟩
      have tl : (bts ds cs bs).length = m + ds.length := by rw [bts_len hcl.symm, bl]
      have o0 := hok.o0
      have o1 := hok.o1
      refine ⟨.ref L, rfl, .inl ⟨rfl, _, .inl (.inl (s4 _ _ eL))⟩, .ref T, rfl, .ref R, rfl, R, _, 2, .int o, rfl, rfl, SqT.of (s4 _ _ (s3 _ _ eR)), rfl, T, _, o, _, rfl, rfl, SqT.of eT, atI_ints o0 (by omega), ?_⟩
      refine ⟨.ref R, rfl, .ref C, rfl, .ref T, rfl, R, C, T, m, o, ds, cs, _, rfl, (Same.tups (s3.trans s4)).row hrow, hok.deeds, by omega, s4 _ _ (s3 _ _ eC), hcl, eT, by rw [tl]; omega, fun H5 N s5 nN eN => ?_⟩
      refine ⟨by show 2 ≤ sizeLine; decide, fun p hp => ?_⟩
      have sp := same_new (o := .tup [.int ((bts ds cs bs).getD o.toNat 0), .ref N]) hp
      have s46 := (s4.trans s5).trans sp
      have eL6 := s46 _ _ eL
      have e1 : (stp m ds o cs)[i]? = some ((bts ds cs bs).getD o.toNat 0, nxt ds cs (bts ds cs bs)) := by
        unfold stp
        rw [List.getElem?_map, hb1]
        rfl
      have pl := awLen hs
      rw [List.length_take] at pl
      have tp := tups_put (o := .lst (ps.map V.ref ++ [V.ref p])) eL6
      refine ⟨L, _, _, rfl, rfl, eL6, ?_, some (.ref fs[i]), some (.ref T), ps ++ [p], rfl, ?_, ?_, ?_, ?_, ?_⟩
      · rw [List.length_map]
        exact small1000 (by omega)
      · rw [upd_same, List.map_append]
        rfl
      · rw [List.take_add_one, e1]
        exact stat_stay tp (awSnoc (F := fun (q : Addr) (e : Int × List Int) => ∃ c, (upd H5 p (.tup [.int ((bts ds cs bs).getD o.toNat 0), .ref N])) q = some (.tup [.int e.1, .ref c]) ∧ (upd H5 p (.tup [.int ((bts ds cs bs).getD o.toNat 0), .ref N])) c = some (.tup (e.2.map V.int))) ⟨N, upd_same, sp _ _ eN⟩ (stat_stay (Same.tups s46) hs))
      · rw [upd_ne nLB]
        exact s46 _ _ eB3
      · exact tat_stay tp (tat_stay (Same.tups s46) hf3)
      · exact old _ _ (s3.trans s46)
    · obtain ⟨y3, y4, ps, rfl, eL, hs, eB3, hf3, s3⟩ := hp
      rw [List.length_map, fl, ← stp_len m ds o cs, List.take_length] at hs
      exact ⟨.ref L, rfl, q _ L ps s3 hL eL hs⟩
abbrev kI (c : List Int) : List Key := c.map Sum.inl
theorem kI_V (c : List Int) : (kI c).map kV = c.map V.int := by
  rw [List.map_map]
  rfl
theorem ints_inj : ∀ {a b : List Int}, a.map V.int = b.map V.int → a = b
  | [], [], _ => rfl
  | [], _ :: _, h => nomatch h
  | _ :: _, [], h => nomatch h
  | x :: a, y :: b, h => by
    rw [List.map_cons, List.map_cons, List.cons.injEq] at h
    rw [V.int.inj h.1, ints_inj h.2]
theorem kI_inj {a b : List Int} (h : kI a = kI b) : a = b := by
  have e := congrArg (List.map kV) h
  rw [kI_V, kI_V] at e
  exact ints_inj e
section tab
variable {α : Type}
def emb (f : α → V) (es : List (List Int × α)) : List (List Key × V) := es.map fun e => (kI e.1, f e.2)
def getA (es : List (List Int × α)) (c : List Int) : Option α := (es.find? fun e => decide (e.1 = c)).map (·.2)
def putA (es : List (List Int × α)) (c : List Int) (v : α) : List (List Int × α) := if c ∈ es.map (·.1) then es.map (fun e => if e.1 = c then (e.1, v) else e) else es ++ [(c, v)]
theorem emb_get (f : α → V) (c : List Int) : ∀ es : List (List Int × α), valV (emb f es) (kI c) = (getA es c).map f
  | [] => rfl
  | e :: es => by
    have ih := emb_get f c es
    unfold emb getA at *
    rw [List.map_cons, List.find?_cons]
    by_cases h : e.1 = c
    · rw [valV_pos (show (kI e.1, f e.2).1 = kI c by rw [h]), decide_eq_true h]
      rfl
    · rw [valV_neg (fun z => h (kI_inj z)), decide_eq_false h]
      exact ih
theorem getA_none {c : List Int} : ∀ {es : List (List Int × α)}, getA es c = none ↔ c ∉ es.map (·.1)
  | [] => by simp [getA]
  | e :: es => by
    have ih := getA_none (c := c) (es := es)
    unfold getA at *
    rw [List.find?_cons, List.map_cons, List.mem_cons, not_or]
    by_cases h : e.1 = c
    · simp [h]
    · rw [decide_eq_false h]
      exact ⟨fun z => ⟨fun y => h y.symm, ih.mp z⟩, fun z => ih.mpr z.2⟩
theorem getA_some {c : List Int} {v : α} {es : List (List Int × α)} (h : getA es c = some v) : (c, v) ∈ es := by
  unfold getA at h
  cases e : es.find? fun e => decide (e.1 = c) with
  | none => rw [e] at h; cases h
  | some p =>
    rw [e] at h
    have h1 := List.mem_of_find?_eq_some e
    have h2 : p.1 = c := of_decide_eq_true (List.find?_some (p := fun e : List Int × α => decide (e.1 = c)) e)
    obtain rfl : p.2 = v := Option.some.inj h
    rw [← h2]
    exact h1
theorem getA_of {c : List Int} {v : α} : ∀ {es : List (List Int × α)}, (es.map (·.1)).Nodup → (c, v) ∈ es → getA es c = some v
  | [], _, h => nomatch h
  | e :: es, nd, h => by
    rw [List.map_cons, List.nodup_cons] at nd
    unfold getA
    rw [List.find?_cons]
    rcases List.mem_cons.mp h with h | h
    · rw [← h]
      simp
    · have hne : ¬ e.1 = c := fun z => nd.1 (z ▸ List.mem_map.mpr ⟨_, h, rfl⟩)
      rw [decide_eq_false hne]
      exact getA_of nd.2 h
theorem emb_put (f : α → V) (es : List (List Int × α)) (c : List Int) (v : α) : putK (emb f es) (kI c) (f v) = emb f (putA es c v) := by
  unfold putK putA
  by_cases h : c ∈ es.map (·.1)
  · rw [if_pos h, if_pos]
    · unfold emb
      rw [List.map_map, List.map_map]
      apply List.map_congr_left
      intro e _
      show (if kI e.1 = kI c then (kI e.1, f v) else (kI e.1, f e.2)) = _
      by_cases he : e.1 = c
      · rw [if_pos (congrArg kI he)]
        simp [he]
      · rw [if_neg (fun z => he (kI_inj z))]
        simp [he]
    · rw [List.any_eq_true]
      obtain ⟨e, h1, h2⟩ := List.mem_map.mp h
      exact ⟨(kI e.1, f e.2), List.mem_map.mpr ⟨e, h1, rfl⟩, by simp [h2]⟩
  · rw [if_neg h, if_neg]
    · unfold emb
      rw [List.map_append]
      rfl
    · intro z
      rw [List.any_eq_true] at z
      obtain ⟨p, h1, h2⟩ := z
      obtain ⟨e, h3, rfl⟩ := List.mem_map.mp h1
      exact h (List.mem_map.mpr ⟨e, h3, kI_inj (of_decide_eq_true h2)⟩)
theorem putA_keys {es : List (List Int × α)} {c : List Int} {v : α} : (putA es c v).map (·.1) = if c ∈ es.map (·.1) then es.map (·.1) else es.map (·.1) ++ [c] := by
  unfold putA
  split
  · rw [List.map_map]
    apply List.map_congr_left
    intro e _
    show (if e.1 = c then (e.1, v) else e).1 = e.1
    split <;> rfl
  · rw [List.map_append]
    rfl
theorem putA_nodup {es : List (List Int × α)} {c : List Int} {v : α} (h : (es.map (·.1)).Nodup) : ((putA es c v).map (·.1)).Nodup := by
  rw [putA_keys]
  split
  · exact h
  · rename_i hn
    rw [List.nodup_append]
    refine ⟨h, by simp, fun a ha b hb => ?_⟩
    rw [List.mem_singleton.mp hb]
    exact fun z => hn (z ▸ ha)
theorem mem_putA {es : List (List Int × α)} {c : List Int} {v : α} {e : List Int × α} : e ∈ putA es c v ↔ e = (c, v) ∨ (e ∈ es ∧ e.1 ≠ c) := by
  unfold putA
  by_cases h : c ∈ es.map (·.1)
  · rw [if_pos h, List.mem_map]
    constructor
    · rintro ⟨a, h1, rfl⟩
      by_cases ha : a.1 = c
      · rw [if_pos ha, ha]
        exact .inl rfl
      · rw [if_neg ha]
        exact .inr ⟨h1, ha⟩
    · rintro (rfl | ⟨h1, h2⟩)
      · obtain ⟨a, h1, h2⟩ := List.mem_map.mp h
        exact ⟨a, h1, by rw [if_pos h2, h2]⟩
      · exact ⟨e, h1, if_neg h2⟩
  · rw [if_neg h, List.mem_append, List.mem_singleton]
    constructor
    · rintro (h1 | h1)
      · exact .inr ⟨h1, fun z => h (z ▸ List.mem_map.mpr ⟨e, h1, rfl⟩)⟩
      · exact .inl h1
    · rintro (h1 | h1)
      · exact .inr h1
      · exact .inl h1.1
end tab
/-- few: all keys are bits, as many as there are deeds -/
theorem few_keys {α : Type} {n : Nat} {es : List (List Int × α)} (nd : (es.map (·.1)).Nodup) (hb : ∀ e ∈ es, e.1.length = n ∧ ∀ x ∈ e.1, Bit x) (hn : n ≤ 8) : es.length ≤ 256 := by
  have h := pigeon (es.map (·.1)) (allB n) nd fun c hc => by
    obtain ⟨e, he, rfl⟩ := List.mem_map.mp hc
    exact allB_all n _ (hb e he).1 (hb e he).2
  rw [List.length_map, allB_len] at h
  exact Nat.le_trans h (Nat.le_trans (Nat.pow_le_pow_right (by decide) hn) (by decide))
/-- things come in the order in which they are first met -/
def FOrd {L : Type} (nx : L → List (Int × L)) (cs : List L) : Prop := ∀ (k : Nat) (c : L), 0 < k → cs[k]? = some c → ∃ (p t : Nat) (a : L) (s : Int × L), p < k ∧ cs[p]? = some a ∧ (nx a)[t]? = some s ∧ s.2 = c ∧
  ∀ (p' t' : Nat) (a' : L) (s' : Int × L), (p' < p ∨ p' = p ∧ t' < t) → cs[p']? = some a' → (nx a')[t']? = some s' → ∃ j, j < k ∧ cs[j]? = some s'.2
theorem FOrd.one {L : Type} {nx : L → List (Int × L)} {c : L} : FOrd nx [c] := fun k c' h1 h2 => by
  have := (List.getElem?_eq_some_iff.mp h2).1
  simp only [List.length_cons, List.length_nil] at this
  omega
theorem FOrd.push {L : Type} {nx : L → List (Int × L)} {cs : List L} (h : FOrd nx cs) {p t : Nat} {a : L} {s : Int × L} (hp : cs[p]? = some a) (hs : (nx a)[t]? = some s)
    (all : ∀ (p' t' : Nat) (a' : L) (s' : Int × L), (p' < p ∨ p' = p ∧ t' < t) → cs[p']? = some a' → (nx a')[t']? = some s' → ∃ j : Nat, cs[j]? = some s'.2) : FOrd nx (cs ++ [s.2]) := by
  have pl := (List.getElem?_eq_some_iff.mp hp).1
  have up : ∀ (i : Nat) (x : L), cs[i]? = some x → (cs ++ [s.2])[i]? = some x := fun i x e => by rw [List.getElem?_append_left (List.getElem?_eq_some_iff.mp e).1]; exact e
  have dn : ∀ (i : Nat) (x : L), i < cs.length → (cs ++ [s.2])[i]? = some x → cs[i]? = some x := fun i x hi e => by rwa [List.getElem?_append_left hi] at e
  intro k c hk hc
  by_cases hl : k < cs.length
  · obtain ⟨p1, t1, a1, s1, e1, e2, e3, e4, e5⟩ := h k c hk (dn k c hl hc)
    refine ⟨p1, t1, a1, s1, e1, up _ _ e2, e3, e4, fun p' t' a' s' h1 h2 h3 => ?_⟩
    obtain ⟨j, g1, g2⟩ := e5 p' t' a' s' h1 (dn p' a' (by omega) h2) h3
    exact ⟨j, g1, up _ _ g2⟩
  · have kl := (List.getElem?_eq_some_iff.mp hc).1
    rw [List.length_append] at kl
    simp only [List.length_cons, List.length_nil] at kl
    have ek : k = cs.length := by omega
    subst ek
    rw [List.getElem?_append_right (Nat.le_refl _), Nat.sub_self] at hc
    refine ⟨p, t, a, s, pl, up _ _ hp, hs, Option.some.inj hc, fun p' t' a' s' h1 h2 h3 => ?_⟩
    obtain ⟨j, g⟩ := all p' t' a' s' h1 (dn p' a' (by omega) h2) h3
    exact ⟨j, (List.getElem?_eq_some_iff.mp g).1, up _ _ g⟩
theorem nd_idx {L : Type} {cs : List L} (nd : cs.Nodup) {i j : Nat} {x : L} (h1 : cs[i]? = some x) (h2 : cs[j]? = some x) : i = j := by
  have l1 := (List.getElem?_eq_some_iff.mp h1).1
  exact (List.getElem?_inj l1 nd).mp (h1.trans h2.symm)
abbrev MRow := List (Int × Int)
abbrev PrAt (H : Hp) : List Addr → MRow → Prop := Paired fun q e => H q = some (.tup [.int e.1, .int e.2])
theorem prat_stay {H H' : Hp} (t : TupsStay H H') {qs : List Addr} {r : MRow} (h : PrAt H qs r) : PrAt H' qs r := awMap (fun q e z => t _ _ z) h
def RowL (H : Hp) (l : Addr) (row : MRow) : Prop := ∃ qs, H l = some (.lst (qs.map V.ref)) ∧ PrAt H qs row
abbrev MacL (H : Hp) : List Addr → List MRow → Prop := Paired (RowL H)
theorem macl_stay {H H' : Hp} (t : TupsStay H H') : ∀ {ls : List Addr} {mac : List MRow}, (∀ l ∈ ls, ∀ xs, H l = some (.lst xs) → H' l = some (.lst xs)) → MacL H ls mac → MacL H' ls mac
  | _, _, _, .nil => .nil
  | _, _, k, .cons ⟨qs, h1, h2⟩ h => .cons ⟨qs, k _ List.mem_cons_self _ h1, prat_stay t h2⟩ (macl_stay t (fun l hl => k l (List.mem_cons_of_mem _ hl)) h)
def kC (c : List Int) : NestedKey := .tup (c.map .num)
theorem nums_inj : ∀ {a b : List Int}, a.map NestedKey.num = b.map NestedKey.num → a = b
  | [], [], _ => rfl
  | [], _ :: _, h => nomatch h
  | _ :: _, [], h => nomatch h
  | x :: a, y :: b, h => by
    rw [List.map_cons, List.map_cons, List.cons.injEq] at h
    rw [NestedKey.num.inj h.1, nums_inj h.2]
theorem kC_inj {a b : List Int} (h : kC a = kC b) : a = b := nums_inj (NestedKey.tup.inj h)
theorem nums_depth : ∀ c : List Int, NestedKey.depthAll (c.map .num) = 0
  | [] => by simp [NestedKey.depthAll]
  | x :: c => by simp [NestedKey.depthAll, NestedKey.depth, nums_depth c]
theorem kC_depth (c : List Int) : (kC c).depth ≤ 8 := by
  unfold kC
  simp [NestedKey.depth, nums_depth c]
theorem nks_ints (H : Hp) : ∀ c : List Int, NkAll H (c.map .num) (c.map V.int)
  | [] => .nil
  | x :: c => .cons (.num x) (nks_ints H c)
theorem nks_eq {H : Hp} : ∀ {c : List Int} {xs : List V}, NkAll H (c.map .num) xs → xs = c.map V.int
  | [], _, h => by
    cases h
    rfl
  | x :: c, _, h => by
    cases h with
    | cons h1 h2 =>
      cases h1
      rw [nks_eq h2]
      rfl
theorem keyC {H : Hp} {b : Addr} {c : List Int} (h : H b = some (.tup (c.map V.int))) : KeyN H (.ref b) (kC c) := ⟨.tup h (nks_ints H c), kC_depth c, b, rfl⟩
theorem keyC_tup {H : Hp} {b : Addr} {c : List Int} (h : KeyN H (.ref b) (kC c)) : H b = some (.tup (c.map V.int)) := by
  obtain ⟨h1, _⟩ := h
  unfold kC at h1
  cases h1 with
  | tup e hs =>
    rw [nks_eq hs] at e
    exact e
/-- a row of the machine of all carries -/
abbrev RowM (cs : List (List Int)) : MRow → List (Int × List Int) → Prop := Paired fun e s => e.1 = s.1 ∧ ∃ j : Nat, e.2 = (j : Int) ∧ cs[j]? = some s.2
structure WM (m : Nat) (ds : List Deed) (o : Int) (cs : List (List Int)) (mac : List MRow) : Prop where
  nd : cs.Nodup
  first : cs[0]? = some (ds.map fcD)
  bits : ∀ c ∈ cs, c.length = ds.length ∧ ∀ x ∈ c, Bit x
  each : ∀ (i : Nat) row, mac[i]? = some row → ∃ c, cs[i]? = some c ∧ RowM cs row (stp m ds o c)
  fo : FOrd (stp m ds o) cs
theorem few_cs {n : Nat} {cs : List (List Int)} (nd : cs.Nodup) (hb : ∀ c ∈ cs, c.length = n ∧ ∀ x ∈ c, Bit x) (hn : n ≤ 8) : cs.length ≤ 256 := by
  have h := pigeon cs (allB n) nd fun c hc => allB_all n _ (hb c hc).1 (hb c hc).2
  rw [allB_len] at h
  exact Nat.le_trans h (Nat.le_trans (Nat.pow_le_pow_right (by decide) hn) (by decide))
theorem keys_nd {cs : List (List Int)} {ts : List WT} (h : (ts.map (·.1)).Nodup) (e : ts.map (·.1) = cs.map kC) : cs.Nodup := by
  rw [e] at h
  exact List.Pairwise.imp (fun {a b} z y => z (congrArg kC y)) (List.pairwise_map.mp h)
theorem keys_at {cs : List (List Int)} {ts : List WT} (e : ts.map (·.1) = cs.map kC) {i : Nat} {t : WT} (h : ts[i]? = some t) : ∃ c, cs[i]? = some c ∧ t.1 = kC c := by
  have h1 : (ts.map (·.1))[i]? = some t.1 := by rw [List.getElem?_map, h]; rfl
  rw [e, List.getElem?_map] at h1
  cases hc : cs[i]? with
  | none => rw [hc] at h1; cases h1
  | some c => rw [hc] at h1; exact ⟨c, rfl, (Option.some.inj h1).symm⟩
theorem keys_len {cs : List (List Int)} {ts : List WT} (e : ts.map (·.1) = cs.map kC) : ts.length = cs.length := by
  have := congrArg List.length e
  rwa [List.length_map, List.length_map] at this
def spWh : Sp := fun vs H Q _ => ∃ (R : Addr) (m : Nat) (o : Int) (ds : List Deed), vs = [.ref R] ∧ RowAt H R m ds o ∧ RowOk m ds o ∧
  ∀ H' p ls cs mac, Same H H' → H p = none → H' p = some (.lst (ls.map V.ref)) → MacL H' ls mac → WM m ds o cs mac → mac.length = cs.length → Q (.ref p) H'
theorem ok_wh {f fA fF fS fI fM C : Addr} {fd fdA fdF fdS fdI fdM : FuncData} {k : Nat} (F : Fun K "whole_machine" "whole_machine" s_whole_machine f fd) (T : WCls K mg C)
    (GA : FnOk P w K mg base CX0 (k + 1) fA fdA ["many"] spAll) (kA : PySem.W.keepIn K (.ref fA) = true) (bA : Binds K fdA ["many"] []) (gA : mg "all_bits" = some (.ref fA))
    (GF : FnOk P w K mg base CX0 (k + 1) fF fdF ["row"] spFc) (kF : PySem.W.keepIn K (.ref fF) = true) (bF : Binds K fdF ["row"] []) (gF : mg "first_carry" = some (.ref fF))
    (GS : FnOk P w K mg base CX0 (k + 4) fS fdS ["row", "carry"] spSt) (kS : PySem.W.keepIn K (.ref fS) = true) (bS : Binds K fdS ["row", "carry"] []) (gS : mg "steps" = some (.ref fS))
    (MK : Mk K C fI) (GI : FnOk P w K mg base CX0 (k + 1) fI fdI ["self", "first"] (spWi P w C)) (bI : Binds K fdI ["self", "first"] [])
    (MM : Meth K C "meet" fM) (GM : FnOk P w K mg base CX0 (k + 1) fM fdM ["self", "thing", "ahead", "bits"] (spWm P w C)) (bM : Binds K fdM ["self", "thing", "ahead", "bits"] [])
    (mn : mg "len" = none) (mz : mg "zip" = none) : FnOk P w K mg base CX0 (k + 5) f fd ["row"] spWh := by
  refine F.ok sc_whole_machine (fun vs H Q E h => ?_) (fun cdv A outer s H vs Q E hr h => ?_)
  · obtain ⟨R, m, o, ds, rfl, _⟩ := h
    rfl
  · obtain ⟨R, m, o, ds, rfl, hrow, hok, q⟩ := h
    obtain ⟨D, rs, eR, eD, hd⟩ := id hrow
    have r1 := hr.mono (show k + 1 ≤ k + 4 by omega)
    have r2 := hr.mono (show k + 1 + 1 ≤ k + 4 by omega)
    refine ⟨_, pss_cons (ps_set (i := 1) sc_whole_machine.nd rfl (.inl rfl) (pe_call GA r1 (by rfl) gA kA bA .nil pass0 (pa_cons (pe_ix ix_tup (pv 0) pe_int (fun _ _ => rfl)) pa_nil)))
      (pss_cons (ps_set (i := 2) sc_whole_machine.nd rfl (.inl rfl) (pe_make MK GI r2 (by rfl) T.mgC bI .nil pass0 (pa_cons (pe_call GF r1 (by rfl) gF kF bF .nil pass0 (pa_cons (pv 0) pa_nil)) pa_nil)))
      (pss_cons (ps_set (i := 3) sc_whole_machine.nd rfl (.inl rfl) (pe_lst pa_nil))
      (pss_cons (ps_while PassesOwn.never (pt_cmpR op_lt (pe_callB call_len_seq (by rfl) mn PySem.boot_len (pa_cons (pv 3) pa_nil)) (pe_callB call_len_seq (by rfl) mn PySem.boot_len (pa_cons (pe_fld (pv 2) rfl) pa_nil)) (nomark _))
        (pss_cons (ps_set (i := 4) sc_whole_machine.nd rfl (.inl rfl) (pe_callB call_len_seq (by rfl) mn PySem.boot_len (pa_cons (pv 3) pa_nil)))
        (pss_cons (ps_set (i := 5) sc_whole_machine.nd rfl (.inl rfl) (pe_ix ix_list (pe_fld (pv 2) rfl) (pv 4) (fun _ _ => rfl)))
        (pss_cons (ps_set (i := 6) sc_whole_machine.nd rfl (.inl rfl) (pe_lst pa_nil))
        (pss_cons (ps_for PassesOwn.never rfl (pi_zip (by rfl) mz (pa_cons (pv 1) (pa_cons (pe_call GS hr (by rfl) gS kS bS .nil pass0 (pa_cons (pv 0) (pa_cons (pv 5) pa_nil))) pa_nil))) (pg_tup rfl (pgs_cons (pg_name (i := 7) sc_whole_machine.nd rfl (.inl rfl)) (pgs_cons (pg_tup rfl (pgs_cons (pg_name (i := 8) sc_whole_machine.nd rfl (.inl rfl)) (pgs_cons (pg_name (i := 9) sc_whole_machine.nd rfl (.inl rfl)) pgs_nil))) pgs_nil)))
          (pss_one (ps_expr (pe_bm PySem.F.plainAttrs_list PySem.F.slot_list_append PySem.F.type_list_append mt_append (pv 6) (pa_cons (pe_tup (pa_cons (pv 8) (pa_cons (pe_meth (pv 2) T.cl MM GM r1 bM .nil pass0 (pa_cons (pv 9) (pa_cons (pv 4) (pa_cons (pv 7) pa_nil)))) pa_nil))) pa_nil)))))
        (pss_one (ps_expr (pe_bm PySem.F.plainAttrs_list PySem.F.slot_list_append PySem.F.type_list_append mt_append (pv 3) (pa_cons (pv 6) pa_nil)))))))))
      (pss_one (ps_ret (pv 3)))))), ?_⟩
    have l8 := hok.len
    have m3 := hok.m3
    refine ⟨.ref R, rfl, R, _, 0, .int m, rfl, rfl, SqT.of eR, rfl, m, rfl, by omega, fun H1 Ch fs s1 nCh eCh hf => ?_⟩
    have fl : fs.length = 2 ^ m := by rw [awLen hf, allB_len]
    refine ⟨.ref R, rfl, R, m, o, ds, rfl, (Same.tups s1).row hrow, by omega, fun H2 Fi s2 nFi eFi => ?_⟩
    intro Wk dx nWk ndx nex
    have tW : TupsStay H2 (upd (upd H2 dx (.own Wk)) Wk (.ins C dx [])) := fun c xs e => by
      rw [upd_ne (ne_of_none e nWk), upd_ne (ne_of_none e ndx)]
      exact e
    have kW : ∀ c u, H2 c = some u → upd (upd H2 dx (.own Wk)) Wk (.ins C dx []) c = some u := fun c u e => by
      rw [upd_ne (ne_of_none e nWk), upd_ne (ne_of_none e ndx)]
      exact e
    refine ⟨Wk, dx, Fi, kC (ds.map fcD), rfl, upd_same, keyC (tW _ _ eFi), fun H3 M N W hw nM nN nW kp => ⟨rfl, ?_⟩⟩
    have s3 : Same H2 H3 := fun c u e => kp c u (ne_of_none e nWk) (kW c u e)
    have s13 := (s1.trans s2).trans s3
    have back : ∀ a : Addr, upd (upd H2 dx (.own Wk)) Wk (.ins C dx []) a = none → H2 a = none := fun a h => by
      cases e : H2 a with
      | none => rfl
      | some u => rw [kW a u e] at h; cases h
    have hM2 := back _ nM
    have hN2 := back _ nN
    have hW2 := back _ nW
    have hM0 : H M = none := (s1.trans s2).free hM2
    have hN0 : H N = none := (s1.trans s2).free hN2
    have hW0 : H W = none := (s1.trans s2).free hW2
    have eCh2 := s2 _ _ eCh
    have nChM : Ch ≠ M := ne_of_none eCh2 hM2
    have nChN : Ch ≠ N := ne_of_none eCh2 hN2
    have nChW : Ch ≠ W := ne_of_none eCh2 hW2
    refine ⟨Nat.zero_le _, fun Mc hMc => ?_⟩
    have sMc := same_new (o := .lst []) hMc
    have nMM : Mc ≠ M := fun z => by rw [z, hw.met] at hMc; cases hMc
    have nMN : Mc ≠ N := fun z => by rw [z, hw.num.ob] at hMc; cases hMc
    have nMW : Mc ≠ W := fun z => by obtain ⟨ws, e, _⟩ := hw.ways; rw [z, e] at hMc; cases hMc
    have nMCh : Mc ≠ Ch := fun z => by rw [z, s3 _ _ eCh2] at hMc; cases hMc
    have hMc0 : H Mc = none := s13.free hMc
    refine ⟨fun n σ H4 => ∃ y4 y5 y6 y7 y8 y9 cs ts wy ls mac, σ = [some (.ref R), some (.ref Ch), some (.ref Wk), some (.ref Mc), y4, y5, y6, y7, y8, y9] ∧ WalkAt P w C H4 Wk M N W ts wy ∧ ts.map (·.1) = cs.map kC ∧ WM m ds o cs mac ∧ mac.length ≤ cs.length ∧ H4 Mc = some (.lst (ls.map V.ref)) ∧ MacL H4 ls mac ∧ (∀ l ∈ ls, l ≠ M ∧ l ≠ N ∧ l ≠ W ∧ l ≠ Mc) ∧ H4 Ch = some (.lst (fs.map V.ref)) ∧ TAt H4 fs (allB m) ∧ Same H H4 ∧ n = 257 - mac.length,
      ⟨_, none, none, none, none, none, none, [ds.map fcD], [(kC (ds.map fcD), Fi)], [(0, [])], [], [], rfl, hw.same sMc, rfl, ⟨by simp, rfl, fun c hc => ?_, fun i row h => by simp at h, FOrd.one⟩, Nat.zero_le _, upd_same, .nil, (fun _ z => nomatch z), sMc _ _ (s3 _ _ eCh2), tat_stay (Same.tups ((s2.trans s3).trans sMc)) hf, s13.trans sMc, rfl⟩, fun n σ H4 hp => ?_⟩
    · rw [List.mem_singleton.mp hc]
      have sh := shp_first ds
      exact ⟨sh.len, sh.bits⟩
    obtain ⟨y4, y5, y6, y7, y8, y9, cs, ts, wy, ls, mac, rfl, hw4, ek, wm, ml, eMc, hmac, lsne, eCh4, hf4, s4, rfl⟩ := hp
    obtain ⟨dxw, ob4⟩ := hw4.ob
    have csl := keys_len ek
    have few := few_cs wm.nd wm.bits l8
    have mll := awLen hmac
    refine ⟨.ref Mc, rfl, Mc, _, rfl, .inl (.inl (.inl eMc)), .ref Wk, rfl, Wk, C, dxw, _, _, rfl, ob4, T.cl, T.nM, wF_met _ _ _, M, _, rfl, .inl (.inl (.inl hw4.met)), _, _, rfl, rfl, _, rfl, ite2 (fun e => ?_) (fun e => ?_)⟩
    · have lt : mac.length < cs.length := by
        have := of_decide_eq_true e
        rw [List.length_map, List.length_map] at this
        omega
      refine ⟨fun σ' H' => ∃ m', m' < 257 - mac.length ∧ (∃ y4 y5 y6 y7 y8 y9 cs ts wy ls mac, σ' = [some (.ref R), some (.ref Ch), some (.ref Wk), some (.ref Mc), y4, y5, y6, y7, y8, y9] ∧ WalkAt P w C H' Wk M N W ts wy ∧ ts.map (·.1) = cs.map kC ∧ WM m ds o cs mac ∧ mac.length ≤ cs.length ∧ H' Mc = some (.lst (ls.map V.ref)) ∧ MacL H' ls mac ∧ (∀ l ∈ ls, l ≠ M ∧ l ≠ N ∧ l ≠ W ∧ l ≠ Mc) ∧ H' Ch = some (.lst (fs.map V.ref)) ∧ TAt H' fs (allB m) ∧ Same H H' ∧ m' = 257 - mac.length), fun σ' H' z => z, ?_⟩
      have lenI : ((ls.map V.ref).length : Int) = ((mac.length : Nat) : Int) := by rw [List.length_map, mll]
      refine ⟨.ref Mc, rfl, Mc, _, rfl, .inl (.inl (.inl eMc)), ?_⟩
      rw [lenI]
      have hti : mac.length < ts.length := by omega
      obtain ⟨c0, hc0, ht1⟩ := keys_at ek (List.getElem?_eq_getElem hti)
      have hkey := hw4.keys _ (List.getElem_mem hti)
      rw [ht1] at hkey
      have ecb := keyC_tup hkey
      obtain ⟨c0l, c0b⟩ := wm.bits c0 (List.mem_of_getElem? hc0)
      refine ⟨.ref Wk, rfl, Wk, C, dxw, _, _, rfl, ob4, T.cl, T.nM, wF_met _ _ _, .int _, rfl, M, _, _, .ref (ts[mac.length]).2, rfl, rfl, .inl (.inl hw4.met), atI_nat (by rw [List.getElem?_map, List.getElem?_eq_getElem hti]; rfl), ?_⟩
      generalize (ts[mac.length]).2 = cb at ecb
      refine ⟨Nat.zero_le _, fun St hSt => ?_⟩
      have sSt := same_new (o := .lst []) hSt
      have nSM : St ≠ M := fun z => by rw [z, hw4.met] at hSt; cases hSt
      have nSN : St ≠ N := fun z => by rw [z, hw4.num.ob] at hSt; cases hSt
      have nSW : St ≠ W := fun z => by obtain ⟨ws, e, _⟩ := hw4.ways; rw [z, e] at hSt; cases hSt
      have nSMc : St ≠ Mc := fun z => by rw [z, eMc] at hSt; cases hSt
      have nSCh : St ≠ Ch := fun z => by rw [z, eCh4] at hSt; cases hSt
      have nSWk : St ≠ Wk := fun z => by rw [z, ob4] at hSt; cases hSt
      have nSls : ∀ l ∈ ls, l ≠ St := fun l hl z => by
        obtain ⟨i, hi⟩ := List.mem_iff_getElem?.mp hl
        obtain ⟨row, _, qs, h1, _⟩ := awGet hmac hi
        rw [z, hSt] at h1
        cases h1
      have hSt0 : H St = none := s4.free hSt
      refine ⟨.ref Ch, rfl, .ref R, rfl, .ref cb, rfl, R, cb, m, o, ds, c0, rfl, (Same.tups (s4.trans sSt)).row hrow, hok, sSt _ _ ecb, c0l, fun H5 Sp ps s5 nSp eSp hps => ?_⟩
      have s45 := sSt.trans s5
      have psl : ps.length = 2 ^ m := by rw [awLen hps, stp_len]
      have nSpM : Sp ≠ M := fun z => by rw [z, sSt _ _ hw4.met] at nSp; cases nSp
      have nSpN : Sp ≠ N := fun z => by rw [z, sSt _ _ hw4.num.ob] at nSp; cases nSp
      have nSpW : Sp ≠ W := fun z => by obtain ⟨ws, e, _⟩ := hw4.ways; rw [z, sSt _ _ e] at nSp; cases nSp
      have nSpS : Sp ≠ St := fun z => by rw [z, upd_same] at nSp; cases nSp
      have eCh5 := s45 _ _ eCh4
      have p8 : 2 ^ m ≤ 8 := Nat.le_trans (Nat.pow_le_pow_right (by decide) (show m ≤ 3 by omega)) (by decide)
      refine ⟨Ch, Sp, _, _, rfl, .inl (.inl eCh5), .inl (.inl eSp), for_it (walk_zip (K := K) (a := Ch) (b := Sp) (xs := fs.map V.ref) (ys := ps.map V.ref) (n := 2 ^ m) (by rw [List.length_map, List.length_map, fl, psl, Nat.min_self])) (fun j σ H6 => ∃ y7 y8 y9 cs' ts' wy' qs row, σ = [some (.ref R), some (.ref Ch), some (.ref Wk), some (.ref Mc), some (.int ((mac.length : Nat) : Int)), some (.ref cb), some (.ref St), y7, y8, y9] ∧ WalkAt P w C H6 Wk M N W ts' wy' ∧ ts'.map (·.1) = cs'.map kC ∧ (∀ (i : Nat) c, cs[i]? = some c → cs'[i]? = some c) ∧ (∀ c ∈ cs', c.length = ds.length ∧ ∀ x ∈ c, Bit x) ∧ FOrd (stp m ds o) cs' ∧ H6 St = some (.lst (qs.map V.ref)) ∧ PrAt H6 qs row ∧ RowM cs' row ((stp m ds o c0).take j) ∧ ∀ b u, b ≠ M → b ≠ N → b ≠ W → b ≠ St → H5 b = some u → H6 b = some u)
        ⟨y7, y8, y9, cs, ts, wy, [], [], rfl, hw4.same s45, ek, fun _ _ z => z, wm.bits, wm.fo, s5 _ _ upd_same, .nil, .nil, fun _ _ _ _ _ _ z => z⟩ (fun j σ H6 _ hp => ?_) (fun j x σ H6 H7 hj hp hy => ?_) (fun σ H6 hp => ?_)⟩
      · obtain ⟨_, _, _, _, _, _, _, _, _, _, _, _, _, _, _, _, _, st⟩ := hp
        exact ⟨.inl (.inl (st _ _ nChM nChN nChW nSCh.symm eCh5)), .inl (.inl (st _ _ nSpM nSpN nSpW nSpS eSp))⟩
      · obtain ⟨y7, y8, y9, cs', ts', wy', qs, row, rfl, hw6, ek6, pre, bit6, fo6, eSt6, hpr, hrm, st⟩ := hp
        obtain ⟨U, x1, x2, rfl, hU, rfl, g1, g2⟩ := hy
        have tup5 : ∀ b xs, H5 b = some (.tup xs) → H6 b = some (.tup xs) := fun b xs e => st b _ (ne_of e (s45 _ _ hw4.met) (fun y => nomatch y)) (ne_of e (s45 _ _ hw4.num.ob) (fun y => nomatch y)) (by obtain ⟨ws, e2, _⟩ := hw4.ways; exact ne_of e (s45 _ _ e2) (fun y => nomatch y)) (ne_of e (s5 _ _ upd_same) (fun y => nomatch y)) e
        have hjf : j < fs.length := by omega
        have hjp : j < ps.length := by omega
        have e1 : x1 = .ref fs[j] := by
          have g1' : (fs.map V.ref)[j]? = some x1 := g1
          rw [List.getElem?_map, List.getElem?_eq_getElem hjf] at g1'
          exact (Option.some.inj g1').symm
        have e2 : x2 = .ref ps[j] := by
          have g2' : (ps.map V.ref)[j]? = some x2 := g2
          rw [List.getElem?_map, List.getElem?_eq_getElem hjp] at g2'
          exact (Option.some.inj g2').symm
        subst e1 e2
        obtain ⟨bs, hb1, hb2⟩ := awGet hf4 (List.getElem?_eq_getElem hjf)
        obtain ⟨sb, hs1, ac, hs2, hs3⟩ := awGet hps (List.getElem?_eq_getElem hjp)
        have sU := same_new (o := .tup [.ref fs[j], .ref ps[j]]) hU
        have eb7 := sU _ _ (tup5 _ _ (s45 _ _ hb2))
        have e27 := sU _ _ (tup5 _ _ hs2)
        have e37 := sU _ _ (tup5 _ _ hs3)
        refine ⟨U, [.ref fs[j], .ref ps[j]], rfl, .inl (.inl upd_same), rfl, .ref fs[j], [.ref ps[j]], rfl, .ref ps[j], [], rfl, ps[j], [.int sb.1, .ref ac], rfl, .inl (.inl e27), rfl, .int sb.1, [.ref ac], rfl, .ref ac, [], rfl, rfl, rfl, ?_⟩
        have nUs : U ≠ St := fun z => by rw [z, eSt6] at hU; cases hU
        obtain ⟨dx6, ob6⟩ := hw6.ob
        have hw7 := hw6.same sU
        have l6 := keys_len ek6
        have few6 := few_cs (keys_nd hw6.nd ek6) bit6 l8
        refine ⟨.ref St, rfl, .inl ⟨rfl, _, .inl (.inl (sU _ _ eSt6))⟩, .int sb.1, rfl, .ref Wk, rfl, Wk, dx6, _, rfl, sU _ _ ob6, wF_meet _ _ _, .ref ac, rfl, .int ((mac.length : Nat) : Int), rfl, .ref fs[j], rfl, Wk, M, N, W, ac, fs[j], ts', wy', kC sb.2, ((mac.length : Nat) : Int), bs, rfl, hw7, keyC e37, eb7, by omega, fun H8 ts2 wy2 ix hw8 hix hcase kp8 => ?_⟩
        refine ⟨by show 2 ≤ sizeLine; decide, fun Pq hPq => ?_⟩
        have sP := same_new (o := .tup [.int sb.1, .int ((ix : Nat) : Int)]) hPq
        have eSt8 := kp8 _ _ nSM nSN nSW (sU _ _ eSt6)
        have hrl := awLen hpr
        have hrl2 := awLen hrm
        rw [List.length_take, stp_len] at hrl2
        have s8t : TupsStay H6 (upd H8 Pq (.tup [.int sb.1, .int ((ix : Nat) : Int)])) := fun b xs e => by
          have e7 := sU _ _ e
          obtain ⟨ws7, ew7, _⟩ := hw7.ways
          exact sP _ _ (kp8 b _ (ne_of e7 hw7.met (fun y => nomatch y)) (ne_of e7 hw7.num.ob (fun y => nomatch y)) (ne_of e7 ew7 (fun y => nomatch y)) e7)
        have nPS : Pq ≠ St := fun z => by rw [z, eSt8] at hPq; cases hPq
        have eSt9 := sP _ _ eSt8
        have tS := tups_put (o := .lst (qs.map V.ref ++ [V.ref Pq])) eSt9
        -- the carries so far
        obtain ⟨cs2, ek2, pre2, bit2, fo2, hcx⟩ : ∃ cs2 : List (List Int), ts2.map (·.1) = cs2.map kC ∧ (∀ (i : Nat) c, cs'[i]? = some c → cs2[i]? = some c) ∧ (∀ c ∈ cs2, c.length = ds.length ∧ ∀ x ∈ c, Bit x) ∧ FOrd (stp m ds o) cs2 ∧ cs2[ix]? = some sb.2 := by
          obtain ⟨b', hb'⟩ := hix
          rcases hcase with ⟨rfl, rfl⟩ | ⟨rfl, rfl, rfl, _⟩
          · obtain ⟨c, hc, ec⟩ := keys_at ek6 hb'
            exact ⟨cs', ek6, fun _ _ z => z, bit6, fo6, by rw [hc, kC_inj ec]⟩
          · refine ⟨cs' ++ [sb.2], by rw [List.map_append, List.map_append, ek6]; rfl, fun i c z => ?_, fun c hc => ?_, fo6.push (pre _ _ hc0) hs1 fun p' t' a' s' g1 g2 g3 => ?_, ?_⟩
            · rw [List.getElem?_append_left (List.getElem?_eq_some_iff.mp z).1]
              exact z
            · rcases List.mem_append.mp hc with hc | hc
              · exact bit6 c hc
              · rw [List.mem_singleton.mp hc]
                obtain ⟨bs', h1, e⟩ := List.mem_map.mp (List.mem_of_getElem? hs1)
                rw [← e]
                exact ⟨nxt_len c0l.symm, nxt_bits (bts_bits (allB_ok m bs' h1).2 c0b) c0b⟩
            · rcases g1 with g1 | ⟨rfl, g1⟩
              · obtain ⟨c, w1, w2⟩ := wm.each p' _ (List.getElem?_eq_getElem g1)
                have w3 := pre _ _ w1
                rw [g2] at w3
                obtain rfl := Option.some.inj w3
                obtain ⟨e, _, _, j', _, w6⟩ := awGet2 w2 g3
                exact ⟨j', pre _ _ w6⟩
              · have w3 := pre _ _ hc0
                rw [g2] at w3
                obtain rfl := Option.some.inj w3
                obtain ⟨e, _, _, j', _, w6⟩ := awGet2 hrm (show (List.take j (stp m ds o a'))[t']? = some s' by rw [List.getElem?_take_of_lt g1]; exact g3)
                exact ⟨j', w6⟩
            · rw [l6, List.getElem?_append_right (Nat.le_refl _), Nat.sub_self]
              rfl
        refine ⟨St, _, _, rfl, rfl, eSt9, ?_, _, _, _, cs2, ts2, wy2, qs ++ [Pq], row ++ [(sb.1, ((ix : Nat) : Int))], rfl, ?_, ek2, fun i c z => pre2 i c (pre i c z), bit2, fo2, ?_, ?_, ?_, ?_⟩
        · rw [List.length_map]
          exact small1000 (by omega)
        · refine (hw8.same sP).stay tS fun c u hc e => ?_
          rw [upd_ne ?_]
          · exact e
          · rcases hc with rfl | rfl | rfl | rfl
            · exact nSWk.symm
            · exact nSM.symm
            · exact nSN.symm
            · exact nSW.symm
        · rw [upd_same, List.map_append]
          rfl
        · exact awSnoc (F := fun (q : Addr) (e : Int × Int) => (upd (upd H8 Pq (.tup [.int sb.1, .int ((ix : Nat) : Int)])) St (.lst (qs.map V.ref ++ [V.ref Pq]))) q = some (.tup [.int e.1, .int e.2])) (tS _ _ upd_same) (prat_stay tS (prat_stay s8t hpr))
        · rw [List.take_add_one, hs1]
          exact awSnoc (F := fun (e : Int × Int) (s : Int × List Int) => e.1 = s.1 ∧ ∃ j : Nat, e.2 = (j : Int) ∧ cs2[j]? = some s.2) ⟨rfl, ix, rfl, hcx⟩ (awMap (fun e s z => ⟨z.1, z.2.elim fun i y => ⟨i, y.1, pre2 i _ y.2⟩⟩) hrm)
        · intro b u n1 n2 n3 n4 e
          rw [upd_ne n4]
          exact sP _ _ (kp8 b u n1 n2 n3 (sU _ _ (st b u n1 n2 n3 n4 e)))
      · obtain ⟨y7, y8, y9, cs', ts', wy', qs, row, rfl, hw6, ek6, pre, bit6, fo6, eSt6, hpr, hrm, st⟩ := hp
        rw [← stp_len m ds o c0, List.take_length] at hrm
        have eMc6 := st _ _ nMM nMN nMW nSMc.symm (s45 _ _ eMc)
        have tup5 : TupsStay H5 H6 := fun b xs e => st b _ (ne_of e (s45 _ _ hw4.met) (fun y => nomatch y)) (ne_of e (s45 _ _ hw4.num.ob) (fun y => nomatch y)) (by obtain ⟨ws, e2, _⟩ := hw4.ways; exact ne_of e (s45 _ _ e2) (fun y => nomatch y)) (ne_of e (s5 _ _ upd_same) (fun y => nomatch y)) e
        have t46 : TupsStay H4 H6 := (Same.tups s45).trans tup5
        have tM := tups_put (o := .lst (ls.map V.ref ++ [V.ref St])) eMc6
        refine ⟨.ref Mc, rfl, .inl ⟨rfl, _, .inl (.inl eMc6)⟩, .ref St, rfl, Mc, _, _, rfl, rfl, eMc6, ?_, _, ?_, _, _, _, _, _, _, cs', ts', wy', ls ++ [St], mac ++ [row], rfl, ?_, ek6, ⟨keys_nd hw6.nd ek6, pre _ _ wm.first, bit6, fun i r hi => ?_, fo6⟩, ?_, ?_, ?_, fun l hl => ?_, ?_, tat_stay tM (tat_stay t46 hf4), ?_, rfl⟩
        · rw [List.length_map]
          exact small1000 (by omega)
        · rw [List.length_append]
          show 257 - (mac.length + 1) < 257 - mac.length
          omega
        · refine hw6.stay tM fun c u hc e => ?_
          rw [upd_ne ?_]
          · exact e
          · obtain ⟨dx6, ob6⟩ := hw6.ob
            rcases hc with rfl | rfl | rfl | rfl
            · exact ne_of ob6 eMc6 (fun y => nomatch y)
            · exact nMM.symm
            · exact nMN.symm
            · exact nMW.symm
        · by_cases hil : i < mac.length
          · rw [List.getElem?_append_left hil] at hi
            obtain ⟨c, h1, h2⟩ := wm.each i r hi
            exact ⟨c, pre _ _ h1, awMap (fun e s z => ⟨z.1, z.2.elim fun i y => ⟨i, y.1, pre i _ y.2⟩⟩) h2⟩
          · rw [List.getElem?_append_right (by omega)] at hi
            have hi2 := (List.getElem?_eq_some_iff.mp hi).1
            simp only [List.length_cons, List.length_nil] at hi2
            have ei : i = mac.length := by omega
            subst ei
            rw [Nat.sub_self] at hi
            obtain rfl := Option.some.inj hi
            exact ⟨c0, pre _ _ hc0, hrm⟩
        · rw [List.length_append]
          have h1 := (List.getElem?_eq_some_iff.mp (pre _ _ hc0)).1
          show mac.length + 1 ≤ cs'.length
          omega
        · rw [upd_same, List.map_append]
          rfl
        · refine awSnoc (F := RowL (upd H6 Mc (.lst (ls.map V.ref ++ [V.ref St])))) ⟨qs, ?_, prat_stay tM hpr⟩ (macl_stay (t46.trans tM) (fun l hl xs e => ?_) hmac)
          · rw [upd_ne nSMc]
            exact eSt6
          · obtain ⟨l1, l2, l3, l4⟩ := lsne l hl
            rw [upd_ne l4]
            exact st _ _ l1 l2 l3 (nSls l hl) (s45 _ _ e)
        · rcases List.mem_append.mp hl with hl | hl
          · exact lsne l hl
          · rw [List.mem_singleton.mp hl]
            exact ⟨nSM, nSN, nSW, nSMc⟩
        · rw [upd_ne nMCh.symm]
          exact st _ _ nChM nChN nChW nSCh.symm eCh5
        · intro b u e
          have e5 := s45 _ _ (s4 b u e)
          rw [upd_ne (ne_of_none e hMc0)]
          exact st b u (ne_of_none e hM0) (ne_of_none e hN0) (ne_of_none e hW0) (ne_of_none e hSt0) e5
    · have nlt : ¬ mac.length < cs.length := fun z => e (by
        apply decide_eq_true
        rw [List.length_map, List.length_map]
        omega)
      exact ⟨.ref Mc, rfl, q H4 Mc ls cs mac s4 hMc0 eMc hmac wm (by omega)⟩
abbrev zs (ns : List Nat) : List Int := ns.map Int.ofNat
structure NumOf (ks : List NestedKey) (ns : List Nat) : Prop where
  len : ns.length = ks.length
  inj : ∀ (i j a : Nat) x y, ns[i]? = some a → ns[j]? = some a → ks[i]? = some x → ks[j]? = some y → x = y
  rg : ∀ i v : Nat, ns[i]? = some (v + 1) → ∃ j, j < i ∧ ns[j]? = some v
  same : ∀ (i j : Nat), ks[i]? = ks[j]? → ns[i]? = ns[j]?
structure FI (ks : List NestedKey) (i : Nat) (us : List NestedKey) : Prop where
  nd : us.Nodup
  all : ∀ (j : Nat) k, j < i → ks[j]? = some k → k ∈ us
  src : ∀ k ∈ us, ∃ j, j < i ∧ ks[j]? = some k
  rg : ∀ (v j : Nat) k, us[v + 1]? = some k → ks[j]? = some k → ∃ j' k', j' < j ∧ us[v]? = some k' ∧ ks[j']? = some k'
  len : us.length ≤ i
theorem FI.zero {ks : List NestedKey} : FI ks 0 [] := ⟨.nil, (fun j k h => absurd h (Nat.not_lt_zero _)), (fun _ z => nomatch z), (fun v j k h => by simp at h), Nat.le_refl _⟩
theorem FI.old {ks us : List NestedKey} {i : Nat} {k : NestedKey} (h : FI ks i us) (hk : ks[i]? = some k) (hm : k ∈ us) : FI ks (i + 1) us := by
  refine ⟨h.nd, fun j k' hj e => ?_, fun k' hk' => ?_, h.rg, Nat.le_succ_of_le h.len⟩
  · by_cases hji : j = i
    · rw [hji, hk] at e
      exact Option.some.inj e ▸ hm
    · exact h.all j k' (by omega) e
  · obtain ⟨j, h1, h2⟩ := h.src k' hk'
    exact ⟨j, by omega, h2⟩
theorem FI.new {ks us : List NestedKey} {i : Nat} {k : NestedKey} (h : FI ks i us) (hk : ks[i]? = some k) (hm : k ∉ us) : FI ks (i + 1) (us ++ [k]) := by
  refine ⟨?_, fun j k' hj e => ?_, fun k' hk' => ?_, fun v j k' hv e => ?_, by rw [List.length_append]; exact Nat.succ_le_succ h.len⟩
  · rw [List.nodup_append]
    refine ⟨h.nd, by simp, fun a ha b hb => ?_⟩
    rw [List.mem_singleton.mp hb]
    exact fun z => hm (z ▸ ha)
  · by_cases hji : j = i
    · rw [hji, hk] at e
      rw [← Option.some.inj e]
      simp
    · exact List.mem_append_left _ (h.all j k' (by omega) e)
  · rcases List.mem_append.mp hk' with h1 | h1
    · obtain ⟨j, h2, h3⟩ := h.src k' h1
      exact ⟨j, by omega, h3⟩
    · rw [List.mem_singleton.mp h1]
      exact ⟨i, by omega, hk⟩
  · by_cases hl : v + 1 < us.length
    · rw [List.getElem?_append_left hl] at hv
      obtain ⟨j', k2, h1, h2, h3⟩ := h.rg v j k' hv e
      exact ⟨j', k2, h1, by rw [List.getElem?_append_left (by omega)]; exact h2, h3⟩
    · rw [List.getElem?_append_right (by omega)] at hv
      have hv0 : v + 1 - us.length = 0 := by
        have := (List.getElem?_eq_some_iff.mp hv).1
        simp at this
        exact this
      rw [hv0] at hv
      have hkk : k = k' := by simpa using hv
      subst hkk
      have hlv : v < us.length := by omega
      obtain ⟨j', h1, h2⟩ := h.src us[v] (List.getElem_mem hlv)
      refine ⟨j', us[v], ?_, by rw [List.getElem?_append_left hlv, List.getElem?_eq_getElem hlv], h2⟩
      by_cases hji : j < i
      · exact absurd (h.all j k hji e) hm
      · omega
def idxN (us : List NestedKey) (k : NestedKey) : Nat := us.findIdx fun u => decide (u = k)
theorem idxN_at {us : List NestedKey} {k : NestedKey} (h : k ∈ us) : us[idxN us k]? = some k := by
  have hl : idxN us k < us.length := List.findIdx_lt_length_of_exists ⟨k, h, by simp⟩
  rw [List.getElem?_eq_getElem hl]
  exact congrArg some (of_decide_eq_true (List.findIdx_getElem (w := hl)))
theorem FI.done {ks us : List NestedKey} (h : FI ks ks.length us) : NumOf ks (ks.map (idxN us)) := by
  have key : ∀ (i a : Nat), (ks.map (idxN us))[i]? = some a → ∃ x, ks[i]? = some x ∧ us[a]? = some x := fun i a e => by
    rw [List.getElem?_map] at e
    cases hx : ks[i]? with
    | none => rw [hx] at e; cases e
    | some x =>
      rw [hx] at e
      have e' : idxN us x = a := Option.some.inj e
      exact ⟨x, rfl, e' ▸ idxN_at (h.all i x (List.getElem?_eq_some_iff.mp hx).1 hx)⟩
  refine ⟨List.length_map _, fun i j a x y h1 h2 h3 h4 => ?_, fun i v e => ?_, fun i j e => by rw [List.getElem?_map, List.getElem?_map, e]⟩
  · obtain ⟨x', e1, e2⟩ := key i a h1
    obtain ⟨y', e3, e4⟩ := key j a h2
    rw [h3] at e1
    rw [h4] at e3
    rw [Option.some.inj e1, Option.some.inj e3]
    exact Option.some.inj (e2.symm.trans e4)
  · obtain ⟨x, e1, e2⟩ := key i _ e
    obtain ⟨j', k', h1, h2, h3⟩ := h.rg v i x e2 e1
    refine ⟨j', h1, ?_⟩
    rw [List.getElem?_map, h3]
    have hk' := h.all j' k' (List.getElem?_eq_some_iff.mp h3).1 h3
    have := idxN_at hk'
    exact congrArg some ((List.getElem?_inj (List.getElem?_eq_some_iff.mp this).1 h.nd).mp (this.trans h2.symm))
abbrev KeysAt (H : Hp) : List Addr → List NestedKey → Prop := Paired fun b k => KeyN H (.ref b) k
def spNu : Sp := fun vs H Q _ => ∃ (L : Addr) (bs : List Addr) (ks : List NestedKey), vs = [.ref L] ∧ H L = some (.lst (bs.map V.ref)) ∧ KeysAt H bs ks ∧ bs.length ≤ 256 ∧
  ∀ H' p ns, Same H H' → H p = none → H' p = some (.lst ((zs ns).map V.int)) → NumOf ks ns → Q (.ref p) H'
theorem ok_nu {f : Addr} {fd : FuncData} {k : Nat} (F : Fun K "numbered" "numbered" s_numbered f fd) (mn : mg "len" = none) : FnOk P w K mg base CX0 (k + 1) f fd ["looks"] spNu := by
  refine F.ok sc_numbered (fun vs H Q E h => ?_) (fun cdv A outer s H vs Q E hr h => ?_)
  · obtain ⟨L, bs, ks, rfl, _⟩ := h
    rfl
  · obtain ⟨L, bs, ks, rfl, eL, hk, hl, q⟩ := h
    refine ⟨_, pss_cons (ps_set (i := 1) sc_numbered.nd rfl (.inr rfl) (pe_ndnew (P := P) (w := w) rfl rfl))
      (pss_cons (ps_for PassesOwn.never rfl (pi_list (pv 0)) (pg_name (i := 2) sc_numbered.nd rfl (.inl rfl))
        (pss_one (ps_expr (pe_nsetd (P := P) (w := w) rfl rfl hr.units (pv 1) (pa_cons (pv 2) (pa_cons (pe_callB (call_lenN (P := P) (w := w) rfl rfl) (by rfl) mn PySem.boot_len (pa_cons (pv 1) pa_nil)) pa_nil))))))
      (pss_one (ps_ret (pe_lc (own := [("look", 2)]) (g := gName 2) (by rfl) sc_numbered.nd (pi_list (pv 0)) (blkOk_by (own := [("look", 2)]) (N := N_numbered) (sc := defScope s_numbered) (by decide +kernel))
        (fun _ _ _ _ _ => pg_name (i := 2) sc_numbered.nd rfl (Or.inl rfl)) (fun _ _ _ _ _ => pts_nil) (fun _ _ _ _ _ => pe_ndget (P := P) (w := w) rfl rfl hr.units (pv 1) (pv 2) (fun _ _ => rfl)))))), ?_⟩
    intro N hN
    have sN := same_new (o := NDO P w N []) hN
    have nLN : L ≠ N := ne_of_none eL hN
    have kl := awLen hk
    refine ⟨.ref L, rfl, L, rfl, ⟨_, .inl (.inl (sN _ _ eL))⟩, for_list (K := K) (a := L) (xs := bs.map V.ref) (fun i σ H3 => ∃ y2 ts, σ = [some (.ref L), some (.ref N), y2] ∧ ND P w H3 N (numE ts) ∧ FI ks i (ts.map (·.1)) ∧ Same H H3)
      ⟨none, [], rfl, nd_nil, FI.zero, sN⟩ (fun i σ H3 _ hp => ?_) (fun i x σ H3 hx hp => ?_) (fun σ H3 hp => ?_)⟩
    · obtain ⟨_, _, _, _, _, s3⟩ := hp
      exact .inl (.inl (s3 _ _ eL))
    · obtain ⟨y2, ts, rfl, nd3, fi, s3⟩ := hp
      have hi : i < bs.length := by
        have := (List.getElem?_eq_some_iff.mp hx).1
        rwa [List.length_map] at this
      have hx' : x = .ref bs[i] := by
        rw [List.getElem?_map, List.getElem?_eq_getElem hi] at hx
        exact (Option.some.inj hx).symm
      subst hx'
      obtain ⟨key, hk1, hk2⟩ := awGet hk (List.getElem?_eq_getElem hi)
      have hk3 := keyn_stay (Same.tups s3) hk2
      have tl := fi.len
      rw [List.length_map] at tl
      refine ⟨.ref N, rfl, ⟨N, _, rfl, nd3⟩, .ref bs[i], rfl, .ref N, rfl, N, _, rfl, nd3, N, _, key, bs[i], _, rfl, rfl, nd3, hk3, ?_, fun y hy => ?_, fun hn => ?_⟩
      · rw [numE_len]
        exact small1000 (by omega)
      · obtain ⟨b, hb⟩ := getN_some hy
        obtain ⟨j, t, ht, he⟩ := numE_mem hb
        have : key ∈ ts.map (·.1) := List.mem_map.mpr ⟨t, List.mem_of_getElem? ht, (Prod.mk.inj he).1.symm⟩
        exact ⟨some (.ref bs[i]), ts, rfl, nd3, fi.old hk1 this, s3⟩
      · have nm : key ∉ ts.map (·.1) := fun z => by
          obtain ⟨t, h1, h2⟩ := List.mem_map.mp z
          obtain ⟨j, hj⟩ := List.mem_iff_getElem?.mp h1
          have := numE_some (k := key) (b := t.2) fi.nd (by rw [hj, ← h2])
          rw [hn] at this
          cases this
        refine ⟨some (.ref bs[i]), ts ++ [(key, bs[i])], rfl, ?_, ?_, fun b u e => ?_⟩
        · rw [numE_snoc, numE_len]
          exact nd_put nd3 hk3
        · rw [List.map_append]
          exact fi.new hk1 nm
        · rw [upd_ne (ne_of_none e hN)]
          exact s3 b u e
    · obtain ⟨y2, ts, rfl, nd3, fi, s3⟩ := hp
      rw [List.length_map, kl] at fi
      refine ⟨.ref L, rfl, L, rfl, ⟨_, .inl (.inl (s3 _ _ eL))⟩, fun D hD => ?_⟩
      refine lc_it (walk_list (K := K) (a := L) (xs := bs.map V.ref)) (fun i H4 => H4 D = some (.lst ((zs ((ks.map (idxN (ts.map (·.1)))).take i)).map V.int)) ∧ Same H3 H4) ⟨upd_same, same_new hD⟩ (fun i H4 _ hp => .inl (.inl (hp.2 _ _ (s3 _ _ eL)))) (fun i x H4 H5 hi hp hy => ?_) (fun H4 hp => ?_)
      · obtain ⟨eD, s4⟩ := hp
        obtain ⟨rfl, hx⟩ := hy
        have hi2 : i < bs.length := by rwa [List.length_map] at hi
        have hx' : x = .ref bs[i] := by
          rw [List.getElem?_map, List.getElem?_eq_getElem hi2] at hx
          exact (Option.some.inj hx).symm
        subst hx'
        obtain ⟨key, hk1, hk2⟩ := awGet hk (List.getElem?_eq_getElem hi2)
        have hm := fi.all i key (by omega) hk1
        have hat := idxN_at hm
        obtain ⟨t, ht1, ht2⟩ : ∃ t, ts[idxN (ts.map (·.1)) key]? = some t ∧ t.1 = key := by
          rw [List.getElem?_map] at hat
          cases ht : ts[idxN (ts.map (·.1)) key]? with
          | none => rw [ht] at hat; cases hat
          | some t => rw [ht] at hat; exact ⟨t, rfl, Option.some.inj hat⟩
        have hg := numE_some (k := key) (b := t.2) fi.nd (by rw [ht1, ← ht2])
        refine ⟨rfl, .ref N, rfl, .ref bs[i], rfl, N, _, key, _, rfl, nd_same nd3 s4, keyn_stay (Same.tups (s3.trans s4)) hk2, hg, _, eD, ?_, ?_, fun b u e => ?_⟩
        · rw [List.length_map, List.length_map, List.length_take]
          exact small1000 (by omega)
        · rw [upd_same, List.take_add_one, List.getElem?_map, hk1]
          simp [zs]
        · rw [upd_ne (ne_of_none e hD)]
          exact s4 b u e
      · obtain ⟨eD, s4⟩ := hp
        rw [List.length_map, kl, ← List.length_map (f := idxN (ts.map (·.1))), List.take_length] at eD
        exact q H4 D _ (s3.trans s4) (s3.free hD) eD fi.done
abbrev RG (ns : List Nat) : Prop := ∀ i v : Nat, ns[i]? = some (v + 1) → ∃ j, j < i ∧ ns[j]? = some v
abbrev Finer (ns ps : List Nat) : Prop := ∀ i j a x y : Nat, ns[i]? = some a → ns[j]? = some a → ps[i]? = some x → ps[j]? = some y → x = y
theorem rg_down {ps : List Nat} (rg : RG ps) : ∀ d v i : Nat, ps[i]? = some (v + d) → ∃ j : Nat, ps[j]? = some v
  | 0, v, i, h => ⟨i, h⟩
  | d + 1, v, i, h => by
    obtain ⟨j, _, h2⟩ := rg i (v + d) h
    exact rg_down rg d v j h2
theorem coarse {ps ns : List Nat} {M m : Nat} (hl : ps.length = ns.length) (rgp : RG ps) (hM : M ∈ ps) (hm : ∀ x ∈ ns, x ≤ m) (hle : m ≤ M) (ref : Finer ns ps) : Finer ps ns := by
  have at_ : ∀ v, v ≤ M → ∃ i : Nat, ps[i]? = some v := fun v hv => by
    obtain ⟨i, hi⟩ := List.mem_iff_getElem?.mp hM
    exact rg_down rgp (M - v) v i (by rw [hi]; congr 1; omega)
  let r : Nat → Nat := fun v => ps.findIdx fun u => decide (u = v)
  have hr : ∀ v, v ≤ M → ps[r v]? = some v := fun v hv => by
    obtain ⟨i, hi⟩ := at_ v hv
    have hlt : r v < ps.length := List.findIdx_lt_length_of_exists ⟨v, List.mem_of_getElem? hi, by simp⟩
    rw [List.getElem?_eq_getElem hlt]
    exact congrArg some (of_decide_eq_true (List.findIdx_getElem (w := hlt)))
  have hn : ∀ v, v ≤ M → ∃ a, ns[r v]? = some a ∧ ns.getD (r v) 0 = a := fun v hv => by
    have hlt : r v < ns.length := by
      rw [← hl]
      exact (List.getElem?_eq_some_iff.mp (hr v hv)).1
    exact ⟨ns[r v], List.getElem?_eq_getElem hlt, by simp [List.getD, List.getElem?_eq_getElem hlt]⟩
  have nd : ((List.range (M + 1)).map fun v => ns.getD (r v) 0).Nodup := by
    refine List.pairwise_map.mpr (List.Pairwise.imp_of_mem (fun {a b} ha hb hab z => hab ?_) List.nodup_range)
    rw [List.mem_range] at ha hb
    obtain ⟨x, h1, h2⟩ := hn a (by omega)
    obtain ⟨y, h3, h4⟩ := hn b (by omega)
    rw [h2, h4] at z
    subst z
    exact ref _ _ x a b h1 h3 (hr a (by omega)) (hr b (by omega))
  have cov : ∀ x, x ∈ ns → ∃ v, v ≤ M ∧ ns[r v]? = some x := fun x hx => by
    by_cases h : x ∈ (List.range (M + 1)).map fun v => ns.getD (r v) 0
    · obtain ⟨v, h1, h2⟩ := List.mem_map.mp h
      rw [List.mem_range] at h1
      obtain ⟨a, h3, h4⟩ := hn v (by omega)
      exact ⟨v, by omega, by rw [h3, ← h4, ← h2]⟩
    · exfalso
      have := pigeon (x :: (List.range (M + 1)).map fun v => ns.getD (r v) 0) (List.range (M + 1)) (List.nodup_cons.mpr ⟨h, nd⟩) fun y hy => by
        rw [List.mem_range]
        rcases List.mem_cons.mp hy with rfl | hy
        · have := hm _ hx
          omega
        · obtain ⟨v, h1, h2⟩ := List.mem_map.mp hy
          rw [List.mem_range] at h1
          obtain ⟨a, h3, h4⟩ := hn v (by omega)
          have := hm a (List.mem_of_getElem? h3)
          have h2' : ns.getD (r v) 0 = y := h2
          omega
      rw [List.length_cons, List.length_map, List.length_range] at this
      omega
  intro i j a x y h1 h2 h3 h4
  obtain ⟨v, v1, v2⟩ := cov x (List.mem_of_getElem? h3)
  obtain ⟨u, u1, u2⟩ := cov y (List.mem_of_getElem? h4)
  have e1 := ref i (r v) x a v h3 v2 h1 (hr v v1)
  have e2 := ref j (r u) y a u h4 u2 h2 (hr u u1)
  have : v = u := by omega
  subst this
  rw [v2] at u2
  exact Option.some.inj u2
abbrev beh (ns : List Nat) (row : MRow) : List Int := row.map fun e => ((ns.getD e.2.toNat 0 : Nat) : Int)
structure MacOk (mac : List MRow) : Prop where
  pos : 0 < mac.length
  few : mac.length ≤ 256
  rows : ∀ row ∈ mac, row.length ≤ 8
  ends : ∀ row ∈ mac, ∀ e ∈ row, ∃ j : Nat, e.2 = (j : Int) ∧ j < mac.length
/-- states that tell alike for ever -/
def Alk (mac : List MRow) (R : Nat → Nat → Prop) : Prop := ∀ i j, R i j → ∃ r s, mac[i]? = some r ∧ mac[j]? = some s ∧ Paired (fun (e e' : Int × Int) => e.1 = e'.1 ∧ R e.2.toNat e'.2.toNat) r s
theorem alk_bits {R : Nat → Nat → Prop} : ∀ {r s : MRow}, Paired (fun (e e' : Int × Int) => e.1 = e'.1 ∧ R e.2.toNat e'.2.toNat) r s → r.map (·.1) = s.map (·.1)
  | _, _, .nil => rfl
  | _, _, .cons h1 h2 => by rw [List.map_cons, List.map_cons, h1.1, alk_bits h2]
theorem alk_beh {ns : List Nat} {R : Nat → Nat → Prop} (h : ∀ i j, R i j → ns[i]? = ns[j]?) : ∀ {r s : MRow}, Paired (fun (e e' : Int × Int) => e.1 = e'.1 ∧ R e.2.toNat e'.2.toNat) r s → beh ns r = beh ns s
  | _, _, .nil => rfl
  | _, _, .cons h1 h2 => by
    have e := alk_beh h h2
    unfold beh at e ⊢
    rw [List.map_cons, List.map_cons, e, List.getD_eq_getElem?_getD, List.getD_eq_getElem?_getD, h _ _ h1.2]
structure KOk (mac : List MRow) (ns : List Nat) : Prop where
  len : ns.length = mac.length
  rg : RG ns
  bits : ∀ (i j a : Nat) r s, ns[i]? = some a → ns[j]? = some a → mac[i]? = some r → mac[j]? = some s → r.map (·.1) = s.map (·.1)
  next : ∀ (i j a : Nat) r s, ns[i]? = some a → ns[j]? = some a → mac[i]? = some r → mac[j]? = some s → beh ns r = beh ns s
  crs : ∀ R, Alk mac R → ∀ i j, R i j → ns[i]? = ns[j]?
structure KInv (mac : List MRow) (ns : List Nat) (many : Nat) : Prop where
  len : ns.length = mac.length
  rg : RG ns
  bits : ∀ (i j a : Nat) r s, ns[i]? = some a → ns[j]? = some a → mac[i]? = some r → mac[j]? = some s → r.map (·.1) = s.map (·.1)
  prev : many = 0 ∨ ∃ (ps : List Nat) (M : Nat), ps.length = mac.length ∧ RG ps ∧ M ∈ ps ∧ many = M + 1 ∧ Finer ns ps ∧ ∀ (i j a : Nat) r s, ns[i]? = some a → ns[j]? = some a → mac[i]? = some r → mac[j]? = some s → beh ps r = beh ps s
  crs : ∀ R, Alk mac R → ∀ i j, R i j → ns[i]? = ns[j]?
theorem rg_le {ns : List Nat} (rg : RG ns) : ∀ (v i : Nat), ns[i]? = some v → v ≤ i
  | 0, _, _ => Nat.zero_le _
  | v + 1, i, e => by
    obtain ⟨j, h1, h2⟩ := rg i v e
    have := rg_le rg v j h2
    omega
theorem KInv.done {mac : List MRow} {ns : List Nat} {many m : Nat} (h : KInv mac ns many) (ok : MacOk mac) (hm : ∀ x ∈ ns, x ≤ m) (hle : m + 1 ≤ many) : KOk mac ns := by
  refine ⟨h.len, h.rg, h.bits, fun i j a r s h1 h2 h3 h4 => ?_, h.crs⟩
  rcases h.prev with e | ⟨ps, M, lp, rgp, hM, rfl, fin, nx⟩
  · omega
  have co := coarse (lp.trans h.len.symm) rgp hM hm (by omega) fin
  have e1 := nx i j a r s h1 h2 h3 h4
  apply List.ext_getElem?
  intro t
  have lr := congrArg List.length (h.bits i j a r s h1 h2 h3 h4)
  rw [List.length_map, List.length_map] at lr
  have e2 := congrArg (fun l : List Int => l[t]?) e1
  rw [List.getElem?_map, List.getElem?_map]
  by_cases ht : t < r.length
  · have ht2 : t < s.length := by omega
    have e3 : (beh ps r)[t]? = (beh ps s)[t]? := e2
    rw [List.getElem?_map, List.getElem?_map, List.getElem?_eq_getElem ht, List.getElem?_eq_getElem ht2] at e3
    rw [List.getElem?_eq_getElem ht, List.getElem?_eq_getElem ht2]
    obtain ⟨x, hx, lx⟩ := ok.ends r (List.mem_of_getElem? h3) r[t] (List.getElem_mem ht)
    obtain ⟨y, hy, ly⟩ := ok.ends s (List.mem_of_getElem? h4) s[t] (List.getElem_mem ht2)
    have e4 : ((ps.getD r[t].2.toNat 0 : Nat) : Int) = ((ps.getD s[t].2.toNat 0 : Nat) : Int) := Option.some.inj e3
    show some ((ns.getD r[t].2.toNat 0 : Nat) : Int) = some ((ns.getD s[t].2.toNat 0 : Nat) : Int)
    rw [hx, hy, Int.toNat_natCast, Int.toNat_natCast] at e4 ⊢
    have hl := h.len
    have px : ps[x]? = some ps[x] := List.getElem?_eq_getElem (by omega)
    have py : ps[y]? = some ps[y] := List.getElem?_eq_getElem (by omega)
    have nx : ns[x]? = some ns[x] := List.getElem?_eq_getElem (by omega)
    have ny : ns[y]? = some ns[y] := List.getElem?_eq_getElem (by omega)
    rw [List.getD_eq_getElem?_getD, List.getD_eq_getElem?_getD, px, py] at e4
    rw [List.getD_eq_getElem?_getD, List.getD_eq_getElem?_getD, nx, ny]
    have e6 : ((ps[x] : Nat) : Int) = ((ps[y] : Nat) : Int) := by simpa using e4
    have e5 : ps[x] = ps[y] := by omega
    have := co x y _ _ _ px (e5 ▸ py) nx ny
    simp [this]
  · rw [List.getElem?_eq_none (by omega), List.getElem?_eq_none (by omega)]
theorem KInv.first {mac : List MRow} {ns : List Nat} (h : NumOf (mac.map fun row => kC (row.map (·.1))) ns) : KInv mac ns 0 := by
  refine ⟨by rw [h.len, List.length_map], h.rg, fun i j a r s h1 h2 h3 h4 => ?_, .inl rfl, fun R hR i j hij => ?_⟩
  · exact kC_inj (h.inj i j a _ _ h1 h2 (by rw [List.getElem?_map, h3]; rfl) (by rw [List.getElem?_map, h4]; rfl))
  · obtain ⟨r, s, h1, h2, h3⟩ := hR i j hij
    exact h.same i j (by rw [List.getElem?_map, List.getElem?_map, h1, h2, Option.map_some, Option.map_some, alk_bits h3])
def kZ (n : Nat) (c : List Int) : NestedKey := .tup [.num (n : Int), kC c]
theorem kZ_inj {n n' : Nat} {c c' : List Int} (h : kZ n c = kZ n' c') : n = n' ∧ c = c' := by
  unfold kZ at h
  have h1 := NestedKey.tup.inj h
  rw [List.cons.injEq, List.cons.injEq] at h1
  have h2 := NestedKey.num.inj h1.1
  exact ⟨by omega, kC_inj h1.2.1⟩
theorem kZ_depth (n : Nat) (c : List Int) : (kZ n c).depth ≤ 8 := by
  unfold kZ kC
  simp [NestedKey.depth, NestedKey.depthAll, nums_depth c]
theorem keyZ {H : Hp} {t b : Addr} {n : Nat} {c : List Int} (h1 : H t = some (.tup [.int (n : Int), .ref b])) (h2 : H b = some (.tup (c.map V.int))) : KeyN H (.ref t) (kZ n c) :=
  ⟨.tup h1 (.cons (.num _) (.cons (.tup h2 (nks_ints H c)) .nil)), kZ_depth n c, t, rfl⟩
theorem KInv.step {mac : List MRow} {ns ns' : List Nat} {many m : Nat} (h : KInv mac ns many) (hm : m ∈ ns) (hn : NumOf ((ns.zip mac).map fun e => kZ e.1 (beh ns e.2)) ns') : KInv mac ns' (m + 1) := by
  have zl : (ns.zip mac).length = mac.length := by rw [List.length_zip, h.len, Nat.min_self]
  have key : ∀ (i j a x y : Nat) r s, ns'[i]? = some a → ns'[j]? = some a → ns[i]? = some x → ns[j]? = some y → mac[i]? = some r → mac[j]? = some s → x = y ∧ beh ns r = beh ns s := fun i j a x y r s h1 h2 h3 h4 h5 h6 => by
    have z1 : (ns.zip mac)[i]? = some (x, r) := List.getElem?_zip_eq_some.mpr ⟨h3, h5⟩
    have z2 : (ns.zip mac)[j]? = some (y, s) := List.getElem?_zip_eq_some.mpr ⟨h4, h6⟩
    exact kZ_inj (hn.inj i j a _ _ h1 h2 (by rw [List.getElem?_map, z1]; rfl) (by rw [List.getElem?_map, z2]; rfl))
  have at_ : ∀ (i : Nat) r, mac[i]? = some r → ∃ x : Nat, ns[i]? = some x := fun i r e => by
    have := (List.getElem?_eq_some_iff.mp e).1
    have hl := h.len
    exact ⟨_, List.getElem?_eq_getElem (by omega)⟩
  refine ⟨by rw [hn.len, List.length_map, zl], hn.rg, fun i j a r s h1 h2 h3 h4 => ?_, .inr ⟨ns, m, h.len, h.rg, hm, rfl, fun i j a x y h1 h2 h3 h4 => ?_, fun i j a r s h1 h2 h3 h4 => ?_⟩, fun R hR i j hij => ?_⟩
  · obtain ⟨x, hx⟩ := at_ i r h3
    obtain ⟨y, hy⟩ := at_ j s h4
    obtain ⟨rfl, _⟩ := key i j a x y r s h1 h2 hx hy h3 h4
    exact h.bits i j x r s hx hy h3 h4
  · have l1 := (List.getElem?_eq_some_iff.mp h3).1
    have l2 := (List.getElem?_eq_some_iff.mp h4).1
    have hl := h.len
    exact (key i j a x y _ _ h1 h2 h3 h4 (List.getElem?_eq_getElem (by omega)) (List.getElem?_eq_getElem (by omega))).1
  · obtain ⟨x, hx⟩ := at_ i r h3
    obtain ⟨y, hy⟩ := at_ j s h4
    exact (key i j a x y r s h1 h2 hx hy h3 h4).2
  · obtain ⟨r, s, h1, h2, h3⟩ := hR i j hij
    obtain ⟨x, hx⟩ := at_ i r h1
    have hy : ns[j]? = some x := (h.crs R hR i j hij).symm.trans hx
    have z1 : (ns.zip mac)[i]? = some (x, r) := List.getElem?_zip_eq_some.mpr ⟨hx, h1⟩
    have z2 : (ns.zip mac)[j]? = some (x, s) := List.getElem?_zip_eq_some.mpr ⟨hy, h2⟩
    exact hn.same i j (by rw [List.getElem?_map, List.getElem?_map, z1, z2, Option.map_some, Option.map_some, alk_beh (h.crs R hR) h3])
def spKi : Sp := fun vs H Q _ => ∃ (p : Addr) (ls : List Addr) (mac : List MRow), vs = [.ref p] ∧ H p = some (.lst (ls.map V.ref)) ∧ MacL H ls mac ∧ MacOk mac ∧
  ∀ H' q ns, Same H H' → H q = none → H' q = some (.lst ((zs ns).map V.int)) → KOk mac ns → Q (.ref q) H'
def KSt (H : Hp) (p : Addr) (mac : List MRow) (n : Nat) (σ : L2.St) (H4 : Hp) : Prop := ∃ y3 y4 y5 y6 Kd ns many, σ = [some (.ref p), some (.ref Kd), some (.int ((many : Nat) : Int)), y3, y4, y5, y6] ∧ H4 Kd = some (.lst ((zs ns).map V.int)) ∧ KInv mac ns many ∧ Same H H4 ∧ H Kd = none ∧ n = 300 - many
theorem mem_zs {ns : List Nat} {m : Int} (h : m ∈ zs ns) : ∃ k : Nat, k ∈ ns ∧ m = (k : Int) := by
  obtain ⟨k, h1, h2⟩ := List.mem_map.mp h
  exact ⟨k, h1, h2.symm⟩
theorem macl_same {H H' : Hp} (s : Same H H') {ls : List Addr} {mac : List MRow} (h : MacL H ls mac) : MacL H' ls mac := macl_stay (Same.tups s) (fun l _ xs e => s _ _ e) h
abbrev TupsAt (H : Hp) : List Addr → List (List Int) → Prop := Paired fun b c => H b = some (.tup (c.map V.int))
abbrev rTupOf (K : PySem.W.Frag) : List V → Hp → VK → Prop := fun xs H Q => ∃ p ys, xs = [.ref p] ∧ ((SqL K H p ys ∧ ∀ l, H l = none → Q (.ref l) (upd H l (.tup ys))) ∨ (SqT K H p ys ∧ Q (.ref p) H))
abbrev scKa : Scope := ⟨.function, [(".0", .local), ("state", .local), ("tuple", .globalImplicit)], false, false, []⟩
abbrev scKb : Scope := ⟨.function, [(".0", .local), ("state", .local), ("tuple", .globalImplicit), ("kinds", .cell)], false, false, []⟩
abbrev scKc : Scope := ⟨.function, [(".0", .local), ("bit", .local), ("after", .local), ("kinds", .free)], false, false, []⟩
theorem ok_ki {f fN : Addr} {fd fdN : FuncData} {k : Nat} (F : Fun K "kinds_of_states" "kinds_of_states" s_kinds_of_states f fd)
    (GN : FnOk P w K mg base CX0 (k + 1) fN fdN ["looks"] spNu) (kN : PySem.W.keepIn K (.ref fN) = true) (bN : Binds K fdN ["looks"] []) (gN : mg "numbered" = some (.ref fN))
    (mx : mg "max" = none) (mt : mg "tuple" = none) (ml : mg "list" = none) (mz : mg "zip" = none) : FnOk P w K mg base CX0 (k + 2) f fd ["machine"] spKi := by
  refine F.ok sc_kinds_of_states (fun vs H Q E h => ?_) (fun cdv A outer s H vs Q E hr h => ?_)
  · obtain ⟨p, ls, mac, rfl, _⟩ := h
    rfl
  · obtain ⟨p, ls, mac, rfl, ep, hmac, ok, q⟩ := h
    refine ⟨_, pss_cons (ps_set (i := 1) sc_kinds_of_states.nd rfl (.inr rfl) (pe_call GN hr (by rfl) gN kN bN .nil pass0 (pa_cons
        (pe_lc (own := [("state", 6)]) (g := gName 6) (by rfl) sc_kinds_of_states.nd (pi_list (pv 0)) (blkOk_by (own := [("state", 6)]) (N := N_kinds_of_states) (sc := defScope s_kinds_of_states) (by decide +kernel))
          (fun _ _ _ _ _ => pg_name (i := 6) sc_kinds_of_states.nd rfl (Or.inl rfl)) (fun _ _ _ _ _ => pts_nil)
          (fun _ _ _ _ _ => pe_callTy (T := "tuple") (r := rTupOf K) call_tuple_of (by rfl) mt (by decide +kernel) (pa_cons
            (pe_lc (wi := iList K (tVar 6)) (own := [("bit", 4), ("after", 5)]) (g := gTup K 2 (gCons (gName 4) (gCons (gName 5) gNil))) (by rfl) sc_kinds_of_states.nd (pi_list (pv 6)) (blkOk_by (own := [("bit", 4), ("after", 5)]) (N := N_kinds_of_states) (sc := scKa) (by decide +kernel))
              (fun _ _ _ _ _ => pg_tup rfl (pgs_cons (pg_name (i := 4) sc_kinds_of_states.nd rfl (.inl rfl)) (pgs_cons (pg_name (i := 5) sc_kinds_of_states.nd rfl (.inl rfl)) pgs_nil))) (fun _ _ _ _ _ => pts_nil)
              (fun _ _ _ _ _ => pv 4)) pa_nil))) pa_nil)))
      (pss_cons (ps_set (i := 2) sc_kinds_of_states.nd rfl (.inl rfl) pe_int)
      (pss_cons (ps_while PassesOwn.never (pt_cmpR op_lt (pv 2) (pe_op op_add (pe_callB (cr_max rfl) (by rfl) mx (by decide +kernel) (pa_cons (pv 1) pa_nil)) pe_int) (nomark _))
        (pss_cons (ps_set (i := 2) sc_kinds_of_states.nd rfl (.inl rfl) (pe_op op_add (pe_callB (cr_max rfl) (by rfl) mx (by decide +kernel) (pa_cons (pv 1) pa_nil)) pe_int))
        (pss_cons (ps_setLc (i := 3) (own := [("state", 6)]) (g := gName 6) (by rfl) sc_kinds_of_states.nd rfl rfl (sw_true rfl rfl rfl (by decide +kernel)) (pi_list (pv 0)) (blkOk_by (own := [("state", 6)]) (N := N_kinds_of_states) (sc := defScope s_kinds_of_states) (by decide +kernel))
          (fun _ _ _ _ _ => pg_name (i := 6) sc_kinds_of_states.nd rfl (Or.inl rfl)) (fun _ _ _ _ _ => pts_nil)
          (fun _ _ _ _ _ => pe_callTy (T := "tuple") (r := rTupOf K) call_tuple_of (by rfl) mt (by decide +kernel) (pa_cons
            (pe_lc (wi := iList K (tVar 6)) (own := [("bit", 4), ("after", 5)]) (g := gTup K 2 (gCons (gName 4) (gCons (gName 5) gNil))) (by rfl) sc_kinds_of_states.nd (pi_list (pv 6)) (by exact blkOk_by (own := [("bit", 4), ("after", 5)]) (N := N_kinds_of_states) (sc := scKb) (scope := scKc) (by decide +kernel))
              (fun _ _ _ _ _ => pg_tup rfl (pgs_cons (pg_name (i := 4) sc_kinds_of_states.nd rfl (.inl rfl)) (pgs_cons (pg_name (i := 5) sc_kinds_of_states.nd rfl (.inl rfl)) pgs_nil))) (fun _ _ _ _ _ => pts_nil)
              (fun _ _ _ _ _ => pe_ix (r := rIxL K) ix_list (pv 1) (pv 5) (fun _ _ => rfl))) pa_nil)))
        (pss_one (ps_set (i := 1) sc_kinds_of_states.nd rfl (.inr rfl) (pe_call GN hr (by rfl) gN kN bN .nil pass0 (pa_cons (pe_listZip (by rfl) (by rfl) ml (by rfl) mz (pa_cons (pv 1) (pa_cons (pv 3) pa_nil))) pa_nil)))))))
      (pss_one (ps_ret (pv 1))))), ?_⟩
    have lml := awLen hmac
    have few := ok.few
    -- the bits of the states
    refine ⟨.ref p, rfl, p, rfl, ⟨_, .inl (.inl ep)⟩, fun D hD => ?_⟩
    refine lc_it (walk_list (K := K) (a := p) (xs := ls.map V.ref)) (fun i H4 => ∃ bs, H4 D = some (.lst (bs.map V.ref)) ∧ TupsAt H4 bs ((mac.map fun row => row.map (·.1)).take i) ∧ Same H H4) ⟨[], upd_same, .nil, same_new hD⟩ (fun i H4 _ hp => ?_) (fun i x H4 H5 hi hp hy => ?_) (fun H4 hp => ?_)
    · obtain ⟨_, _, _, s4⟩ := hp
      exact .inl (.inl (s4 _ _ ep))
    · obtain ⟨bs, eD, hb, s4⟩ := hp
      obtain ⟨rfl, hx⟩ := hy
      have hi2 : i < ls.length := by rwa [List.length_map] at hi
      have hx' : x = .ref ls[i] := by
        rw [List.getElem?_map, List.getElem?_eq_getElem hi2] at hx
        exact (Option.some.inj hx).symm
      subst hx'
      obtain ⟨row, hr1, hr2⟩ := awGet hmac (List.getElem?_eq_getElem hi2)
      obtain ⟨qs, eq, hq⟩ := hr2
      have rm := List.mem_of_getElem? hr1
      have r8 := ok.rows row rm
      have ql := awLen hq
      have bl := awLen hb
      rw [List.length_take] at bl
      refine ⟨rfl, .ref ls[i], rfl, ls[i], rfl, ⟨_, .inl (.inl (s4 _ _ eq))⟩, fun G hG => ?_⟩
      refine lc_it (walk_list (K := K) (a := ls[i]) (xs := qs.map V.ref)) (fun t H6 => H6 G = some (.lst (((row.take t).map (·.1)).map V.int)) ∧ Same H5 H6) ⟨upd_same, same_new hG⟩ (fun t H6 _ hp => .inl (.inl (hp.2 _ _ (s4 _ _ eq)))) (fun t x H6 H7 ht hp hy => ?_) (fun H6 hp => ?_)
      · obtain ⟨eG, s6⟩ := hp
        obtain ⟨rfl, hx⟩ := hy
        have ht2 : t < qs.length := by rwa [List.length_map] at ht
        have hx' : x = .ref qs[t] := by
          rw [List.getElem?_map, List.getElem?_eq_getElem ht2] at hx
          exact (Option.some.inj hx).symm
        subst hx'
        obtain ⟨e, he1, he2⟩ := awGet hq (List.getElem?_eq_getElem ht2)
        have gl : ((row.take t).map (·.1)).length < sizeLine := by
          rw [List.length_map, List.length_take]
          exact small1000 (by omega)
        refine ⟨qs[t], [.int e.1, .int e.2], rfl, .inl (.inl (s6 _ _ (s4 _ _ he2))), rfl, .int e.1, [.int e.2], rfl, .int e.2, [], rfl, rfl, rfl, .int e.1, rfl, _, eG, ?_, ?_, fun b u z => ?_⟩
        · rw [List.length_map]
          exact gl
        · rw [upd_same, List.take_add_one, he1]
          simp
        · rw [upd_ne (ne_of_none z hG)]
          exact s6 b u z
      · obtain ⟨eG, s6⟩ := hp
        rw [List.length_map, ql, List.take_length] at eG
        refine ⟨G, _, rfl, .inl ⟨.inl (.inl eG), fun T hT => ?_⟩⟩
        have sT := same_new (o := .tup ((row.map (·.1)).map V.int)) hT
        have eD2 := (s6.trans sT) _ _ eD
        have tp := tups_put (o := .lst (bs.map V.ref ++ [V.ref T])) eD2
        refine ⟨_, eD2, ?_, bs ++ [T], ?_, ?_, fun b u z => ?_⟩
        · rw [List.length_map]
          exact small1000 (by omega)
        · rw [upd_same, List.map_append]
          rfl
        · rw [List.take_add_one, List.getElem?_map, hr1]
          exact awMap (fun b c z => tp _ _ z) (awSnoc (F := fun (b : Addr) (c : List Int) => (upd H6 T (.tup ((row.map (·.1)).map V.int))) b = some (.tup (c.map V.int))) upd_same (awMap (fun b c z => sT _ _ (s6 _ _ z)) hb))
        · rw [upd_ne (ne_of_none z hD)]
          exact sT _ _ (s6 _ _ (s4 b u z))
    · obtain ⟨bs, eD, hb, s4⟩ := hp
      have hb' : TupsAt H4 bs (mac.map fun row => row.map (·.1)) := by
        rw [List.length_map, lml, ← List.length_map (as := mac) (f := fun row => row.map (·.1)), List.take_length] at hb
        exact hb
      have bl : bs.length = mac.length := by rw [awLen hb', List.length_map]
      have hks : KeysAt H4 bs (mac.map fun row => kC (row.map (·.1))) := paired_of (by rw [bl, List.length_map]) fun j b key h1 h2 => by
        obtain ⟨c, h3, h4⟩ := awGet hb' h1
        rw [List.getElem?_map] at h2 h3
        cases hj : mac[j]? with
        | none => rw [hj] at h2; cases h2
        | some row =>
          rw [hj] at h2 h3
          rw [← Option.some.inj h2]
          rw [← Option.some.inj h3] at h4
          exact keyC h4
      refine ⟨D, bs, _, rfl, eD, hks, by omega, fun H5 Kd ns s5 nK eK hn => ?_⟩
      have nK0 := s4.free nK
      refine ⟨KSt H p mac, ⟨_, none, none, none, none, Kd, ns, 0, rfl, eK, KInv.first hn, s4.trans s5, nK0, rfl⟩, fun n σ H6 hp => ?_⟩
      obtain ⟨y3, y4, y5, y6, Kd, ns, many, rfl, eK, ki, s6, nK0, rfl⟩ := hp
      have nl : 0 < ns.length := by
        rw [ki.len]
        exact ok.pos
      refine ⟨.int many, rfl, .ref Kd, rfl, Kd, zs ns, rfl, .inl (.inl eK), by rwa [List.length_map], fun mI hmI hxI => ?_⟩
      obtain ⟨m, hm, rfl⟩ := mem_zs hmI
      have hx : ∀ x ∈ ns, x ≤ m := fun x hx => by
        have := hxI (x : Int) (List.mem_map.mpr ⟨x, hx, rfl⟩)
        omega
      have m256 : m < 256 := by
        obtain ⟨i, hi⟩ := List.mem_iff_getElem?.mp hm
        have h1 := rg_le ki.rg m i hi
        have h2 := (List.getElem?_eq_some_iff.mp hi).1
        have h3 := ki.len
        omega
      refine ⟨_, _, rfl, rfl, _, _, rfl, rfl, _, rfl, ite2 (fun e => ?_) (fun e => ?_)⟩
      · have lt : many < m + 1 := by
          have := of_decide_eq_true e
          omega
        refine ⟨fun σ' H' => ∃ m', m' < 300 - many ∧ KSt H p mac m' σ' H', fun σ' H' z => z, ?_⟩
        refine ⟨.ref Kd, rfl, Kd, zs ns, rfl, .inl (.inl eK), by rwa [List.length_map], fun mJ hmJ hxJ => ?_⟩
        obtain rfl : mJ = (m : Int) := by
          have h1 := hxI mJ hmJ
          have h2 := hxJ _ hmI
          omega
        refine ⟨_, _, rfl, rfl, ?_⟩
        refine ⟨.ref p, rfl, p, rfl, ⟨_, .inl (.inl (s6 _ _ ep))⟩, fun D hD => ?_⟩
        have hmac' := macl_same s6 hmac
        refine lc_it (walk_list (K := K) (a := p) (xs := ls.map V.ref)) (fun i H7 => ∃ bs, H7 D = some (.lst (bs.map V.ref)) ∧ TupsAt H7 bs ((mac.map (beh ns)).take i) ∧ Same H6 H7) ⟨[], upd_same, .nil, same_new hD⟩ (fun i H7 _ hp => ?_) (fun i x H7 H8 hi hp hy => ?_) (fun H7 hp => ?_)
        · obtain ⟨_, _, _, s7⟩ := hp
          exact .inl (.inl (s7 _ _ (s6 _ _ ep)))
        · obtain ⟨bs, eD, hb, s7⟩ := hp
          obtain ⟨rfl, hx⟩ := hy
          have hi2 : i < ls.length := by rwa [List.length_map] at hi
          have hx' : x = .ref ls[i] := by
            rw [List.getElem?_map, List.getElem?_eq_getElem hi2] at hx
            exact (Option.some.inj hx).symm
          subst hx'
          obtain ⟨row, hr1, hr2⟩ := awGet hmac' (List.getElem?_eq_getElem hi2)
          obtain ⟨qs, eq, hq⟩ := hr2
          have rm := List.mem_of_getElem? hr1
          have r8 := ok.rows row rm
          have ql := awLen hq
          have bl := awLen hb
          rw [List.length_take] at bl
          refine ⟨rfl, .ref ls[i], rfl, ls[i], rfl, ⟨_, .inl (.inl (s7 _ _ eq))⟩, fun G hG => ?_⟩
          refine lc_it (walk_list (K := K) (a := ls[i]) (xs := qs.map V.ref)) (fun t H9 => H9 G = some (.lst ((beh ns (row.take t)).map V.int)) ∧ Same H8 H9) ⟨upd_same, same_new hG⟩ (fun t H9 _ hp => .inl (.inl (hp.2 _ _ (s7 _ _ eq)))) (fun t x H9 H10 ht hp hy => ?_) (fun H9 hp => ?_)
          · obtain ⟨eG, s9⟩ := hp
            obtain ⟨rfl, hx⟩ := hy
            have ht2 : t < qs.length := by rwa [List.length_map] at ht
            have hx' : x = .ref qs[t] := by
              rw [List.getElem?_map, List.getElem?_eq_getElem ht2] at hx
              exact (Option.some.inj hx).symm
            subst hx'
            obtain ⟨e, he1, he2⟩ := awGet hq (List.getElem?_eq_getElem ht2)
            obtain ⟨j, hj1, hj2⟩ := ok.ends row rm e (List.mem_of_getElem? he1)
            have jn : j < ns.length := by
              rw [ki.len]
              exact hj2
            have gd : ns.getD e.2.toNat 0 = ns[j] := by
              rw [hj1, Int.toNat_natCast]
              simp [List.getD, List.getElem?_eq_getElem jn]
            refine ⟨qs[t], [.int e.1, .int e.2], rfl, .inl (.inl (s9 _ _ (s7 _ _ he2))), rfl, .int e.1, [.int e.2], rfl, .int e.2, [], rfl, rfl, rfl, .ref Kd, rfl, .int e.2, rfl, Kd, _, e.2, .int ((ns[j] : Nat) : Int), rfl, rfl, .inl (.inl (s9 _ _ (s7 _ _ eK))), ?_, _, eG, ?_, ?_, fun b u z => ?_⟩
            · rw [hj1]
              exact atI_nat (by rw [List.getElem?_map, List.getElem?_map, List.getElem?_eq_getElem jn]; rfl)
            · rw [List.length_map, List.length_map, List.length_take]
              exact small1000 (by omega)
            · rw [upd_same, List.take_add_one, he1]
              simp [beh, ← gd]
            · rw [upd_ne (ne_of_none z hG)]
              exact s9 b u z
          · obtain ⟨eG, s9⟩ := hp
            rw [List.length_map, ql, List.take_length] at eG
            refine ⟨G, _, rfl, .inl ⟨.inl (.inl eG), fun T hT => ?_⟩⟩
            have sT := same_new (o := .tup ((beh ns row).map V.int)) hT
            have eD2 := (s9.trans sT) _ _ eD
            have tp := tups_put (o := .lst (bs.map V.ref ++ [V.ref T])) eD2
            refine ⟨_, eD2, ?_, bs ++ [T], ?_, ?_, fun b u z => ?_⟩
            · rw [List.length_map]
              exact small1000 (by omega)
            · rw [upd_same, List.map_append]
              rfl
            · rw [List.take_add_one, List.getElem?_map, hr1]
              exact awMap (fun b c z => tp _ _ z) (awSnoc (F := fun (b : Addr) (c : List Int) => (upd H9 T (.tup ((beh ns row).map V.int))) b = some (.tup (c.map V.int))) upd_same (awMap (fun b c z => sT _ _ (s9 _ _ z)) hb))
            · rw [upd_ne (ne_of_none z hD)]
              exact sT _ _ (s9 _ _ (s7 b u z))
        · obtain ⟨bs, eD, hb, s7⟩ := hp
          have hb' : TupsAt H7 bs (mac.map (beh ns)) := by
            rw [List.length_map, lml, ← List.length_map (as := mac) (f := beh ns), List.take_length] at hb
            exact hb
          have bl : bs.length = mac.length := by rw [awLen hb', List.length_map]
          have kl := ki.len
          refine ⟨.ref Kd, rfl, .ref D, rfl, Kd, D, _, _, rfl, .inl (.inl (s7 _ _ eK)), .inl (.inl eD), by rw [List.length_map, List.length_map, List.length_map]; omega, fun H8 Z ts s8 nZ eZ hz => ?_⟩
          have tl : ts.length = mac.length := by
            rw [awLen hz, List.length_zip, List.length_map, List.length_map, List.length_map]
            omega
          have hks : KeysAt H8 ts ((ns.zip mac).map fun e => kZ e.1 (beh ns e.2)) := paired_of (by rw [tl, List.length_map, List.length_zip]; omega) fun j t key h1 h2 => by
            obtain ⟨e, h3, h4⟩ := awGet hz h1
            rw [List.getElem?_map] at h2
            have hj : j < mac.length := by
              have := (List.getElem?_eq_some_iff.mp h1).1
              omega
            have n1 : ns[j]? = some ns[j] := List.getElem?_eq_getElem (by omega)
            have m1 : mac[j]? = some mac[j] := List.getElem?_eq_getElem hj
            have b1 : bs[j]? = some bs[j] := List.getElem?_eq_getElem (by omega)
            have z1 : (ns.zip mac)[j]? = some (ns[j], mac[j]) := List.getElem?_zip_eq_some.mpr ⟨n1, m1⟩
            rw [z1] at h2
            obtain rfl := Option.some.inj h2
            have z2 : (((zs ns).map V.int).zip (bs.map V.ref))[j]? = some (.int ((ns[j] : Nat) : Int), .ref bs[j]) := List.getElem?_zip_eq_some.mpr ⟨by rw [List.getElem?_map, List.getElem?_map, n1]; rfl, by rw [List.getElem?_map, b1]; rfl⟩
            rw [z2] at h3
            obtain rfl := Option.some.inj h3
            obtain ⟨c, h5, h6⟩ := awGet hb' b1
            rw [List.getElem?_map, m1] at h5
            obtain rfl := Option.some.inj h5
            exact keyZ h4 (s8 _ _ h6)
          refine ⟨Z, ts, _, rfl, eZ, hks, by omega, fun H9 Kd2 ns2 s9 nK2 eK2 hn2 => ?_⟩
          have s69 := (s7.trans s8).trans s9
          exact ⟨300 - (m + 1), by omega, some (.ref D), y4, y5, y6, Kd2, ns2, m + 1, rfl, eK2, ki.step hm hn2, s6.trans s69, (s6.trans (s7.trans s8)).free nK2, rfl⟩
      · have ge : m + 1 ≤ many := by
          have : ¬ ((many : Int) < (m : Int) + 1) := fun z => e (decide_eq_true z)
          omega
        exact ⟨.ref Kd, rfl, q H6 Kd ns s6 nK0 eK (ki.done ok hx ge)⟩
abbrev low (ns : List Nat) (row : MRow) : MRow := row.map fun e => (e.1, ((ns.getD e.2.toNat 0 : Nat) : Int))
theorem low_eq {ns : List Nat} : ∀ {r s : MRow}, r.map (·.1) = s.map (·.1) → beh ns r = beh ns s → low ns r = low ns s
  | [], [], _, _ => rfl
  | [], _ :: _, h, _ => nomatch h
  | _ :: _, [], h, _ => nomatch h
  | x :: r, y :: s, h1, h2 => by
    simp only [beh, List.map_cons, List.cons.injEq] at h1 h2
    simp only [low, List.map_cons, List.cons.injEq]
    exact ⟨Prod.ext h1.1 h2.1, low_eq h1.2 h2.2⟩
/-- a machine walks along with the carries of a row -/
def Sim (m : Nat) (ds : List Deed) (o : Int) (lm : List MRow) (S : List Int → Nat → Prop) : Prop :=
  S (ds.map fcD) 0 ∧ ∀ c k, S c k → ∃ row, lm[k]? = some row ∧ Paired (fun (e : Int × Int) (s : Int × List Int) => e.1 = s.1 ∧ ∃ j : Nat, e.2 = (j : Int) ∧ S s.2 j) row (stp m ds o c)
structure LInv (mac : List MRow) (ns : List Nat) (lm : List MRow) (i : Nat) : Prop where
  each : ∀ (k : Nat) row, lm[k]? = some row → ∃ (i0 : Nat) (r : MRow), ns[i0]? = some k ∧ mac[i0]? = some r ∧ row = low ns r
  all : ∀ j k : Nat, j < i → ns[j]? = some k → k < lm.length
  len : lm.length ≤ i
theorem LInv.new {mac lm : List MRow} {ns : List Nat} {i : Nat} {r : MRow} (h : LInv mac ns lm i) (hk : ns[i]? = some lm.length) (hr : mac[i]? = some r) : LInv mac ns (lm ++ [low ns r]) (i + 1) := by
  refine ⟨fun k row e => ?_, fun j k hj e => ?_, by rw [List.length_append]; exact Nat.succ_le_succ h.len⟩
  · by_cases hl : k < lm.length
    · rw [List.getElem?_append_left hl] at e
      exact h.each k row e
    · rw [List.getElem?_append_right (by omega)] at e
      have h2 := (List.getElem?_eq_some_iff.mp e).1
      simp only [List.length_cons, List.length_nil] at h2
      have ek : k = lm.length := by omega
      subst ek
      rw [Nat.sub_self] at e
      exact ⟨i, r, hk, hr, (Option.some.inj e).symm⟩
  · rw [List.length_append]
    show k < lm.length + 1
    by_cases hji : j = i
    · subst hji
      rw [hk] at e
      have := Option.some.inj e
      omega
    · have := h.all j k (by omega) e
      omega
theorem LInv.old {mac lm : List MRow} {ns : List Nat} {i k : Nat} (h : LInv mac ns lm i) (rg : RG ns) (hk : ns[i]? = some k) (hn : k ≠ lm.length) : LInv mac ns lm (i + 1) := by
  refine ⟨h.each, fun j k' hj e => ?_, Nat.le_succ_of_le h.len⟩
  by_cases hji : j = i
  · subst hji
    rw [hk] at e
    obtain rfl := Option.some.inj e
    cases k with
    | zero => omega
    | succ v =>
      obtain ⟨j', h1, h2⟩ := rg j v hk
      have := h.all j' v h1 h2
      omega
  · exact h.all j k' (by omega) e
theorem LInv.sim {mac lm : List MRow} {ns : List Nat} {m : Nat} {ds : List Deed} {o : Int} {cs : List (List Int)} (h : LInv mac ns lm ns.length) (kk : KOk mac ns) (wm : WM m ds o cs mac) (hl : mac.length = cs.length) (pos : 0 < mac.length) :
    Sim m ds o lm fun c k => ∃ i : Nat, cs[i]? = some c ∧ ns[i]? = some k := by
  have nl := kk.len
  refine ⟨⟨0, wm.first, ?_⟩, fun c k => ?_⟩
  · have h0 : ns[0]? = some ns[0] := List.getElem?_eq_getElem (by omega)
    have := rg_le kk.rg _ _ h0
    rw [h0]
    congr 1
    omega
  · rintro ⟨i, h1, h2⟩
    have il := (List.getElem?_eq_some_iff.mp h2).1
    have kl := h.all i k il h2
    obtain ⟨i0, r0, a1, a2, a3⟩ := h.each k lm[k] (List.getElem?_eq_getElem kl)
    have hr : mac[i]? = some mac[i] := List.getElem?_eq_getElem (by omega)
    obtain ⟨c', b1, b2⟩ := wm.each i _ hr
    rw [h1] at b1
    obtain rfl := Option.some.inj b1
    have e1 := kk.bits i0 i k r0 _ a1 h2 a2 hr
    have e2 := kk.next i0 i k r0 _ a1 h2 a2 hr
    refine ⟨_, List.getElem?_eq_getElem kl, ?_⟩
    rw [a3, low_eq e1 e2]
    refine paired_of (by rw [List.length_map, awLen b2]) fun t e s g1 g2 => ?_
    rw [List.getElem?_map] at g1
    cases hx : (mac[i]'(by omega))[t]? with
    | none => rw [hx] at g1; cases g1
    | some x =>
      rw [hx] at g1
      obtain ⟨s', g3, g4, j, g5, g6⟩ := awGet b2 hx
      rw [g2] at g3
      obtain rfl := Option.some.inj g3
      obtain rfl := Option.some.inj g1
      have jl := (List.getElem?_eq_some_iff.mp g6).1
      have nj : ns[j]? = some ns[j] := List.getElem?_eq_getElem (by omega)
      refine ⟨g4, ns.getD x.2.toNat 0, rfl, j, g6, ?_⟩
      rw [g5, Int.toNat_natCast, List.getD_eq_getElem?_getD, nj]
      rfl
theorem wm_ok {m : Nat} {ds : List Deed} {o : Int} {cs : List (List Int)} {mac : List MRow} (wm : WM m ds o cs mac) (hl : mac.length = cs.length) (hm : m ≤ 3) (hn : ds.length ≤ 8) : MacOk mac := by
  have pos : 0 < cs.length := (List.getElem?_eq_some_iff.mp wm.first).1
  refine ⟨by omega, by rw [hl]; exact few_cs wm.nd wm.bits hn, fun row hr => ?_, fun row hr e he => ?_⟩
  · obtain ⟨i, hi⟩ := List.mem_iff_getElem?.mp hr
    obtain ⟨c, _, h2⟩ := wm.each i row hi
    rw [awLen h2, stp_len]
    exact Nat.le_trans (Nat.pow_le_pow_right (by decide) hm) (by decide)
  · obtain ⟨i, hi⟩ := List.mem_iff_getElem?.mp hr
    obtain ⟨c, _, h2⟩ := wm.each i row hi
    obtain ⟨t, ht⟩ := List.mem_iff_getElem?.mp he
    obtain ⟨s, _, _, j, h3, h4⟩ := awGet h2 ht
    exact ⟨j, h3, by rw [hl]; exact (List.getElem?_eq_some_iff.mp h4).1⟩
structure LmOk (m : Nat) (ds : List Deed) (o : Int) (lm : List MRow) : Prop where
  sim : ∃ S, Sim m ds o lm S
  few : lm.length ≤ 256
  src : ∃ cs mac ns, WM m ds o cs mac ∧ mac.length = cs.length ∧ KOk mac ns ∧ LInv mac ns lm ns.length
def spLm : Sp := fun vs H Q _ => ∃ (R : Addr) (m : Nat) (o : Int) (ds : List Deed), vs = [.ref R] ∧ RowAt H R m ds o ∧ RowOk m ds o ∧
  ∀ H' p ls lm, Same H H' → H p = none → H' p = some (.lst (ls.map V.ref)) → MacL H' ls lm → LmOk m ds o lm → Q (.ref p) H'
theorem ok_lm {f fW fK : Addr} {fd fdW fdK : FuncData} {k : Nat} (F : Fun K "least_machine" "least_machine" s_least_machine f fd)
    (GW : FnOk P w K mg base CX0 (k + 5) fW fdW ["row"] spWh) (kW : PySem.W.keepIn K (.ref fW) = true) (bW : Binds K fdW ["row"] []) (gW : mg "whole_machine" = some (.ref fW))
    (GK : FnOk P w K mg base CX0 (k + 2) fK fdK ["machine"] spKi) (kK : PySem.W.keepIn K (.ref fK) = true) (bK : Binds K fdK ["machine"] []) (gK : mg "kinds_of_states" = some (.ref fK))
    (mn : mg "len" = none) (mz : mg "zip" = none) : FnOk P w K mg base CX0 (k + 6) f fd ["row"] spLm := by
  refine F.ok sc_least_machine (fun vs H Q E h => ?_) (fun cdv A outer s H vs Q E hr h => ?_)
  · obtain ⟨R, m, o, ds, rfl, _⟩ := h
    rfl
  · obtain ⟨R, m, o, ds, rfl, hrow, hok, q⟩ := h
    have r2 := hr.mono (show k + 2 ≤ k + 5 by omega)
    refine ⟨_, pss_cons (ps_set (i := 1) sc_least_machine.nd rfl (.inl rfl) (pe_call GW hr (by rfl) gW kW bW .nil pass0 (pa_cons (pv 0) pa_nil)))
      (pss_cons (ps_set (i := 2) sc_least_machine.nd rfl (.inr rfl) (pe_call GK r2 (by rfl) gK kK bK .nil pass0 (pa_cons (pv 1) pa_nil)))
      (pss_cons (ps_set (i := 3) sc_least_machine.nd rfl (.inl rfl) (pe_lst pa_nil))
      (pss_cons (ps_for PassesOwn.never rfl (pi_zip (by rfl) mz (pa_cons (pv 2) (pa_cons (pv 1) pa_nil))) (pg_tup rfl (pgs_cons (pg_name (i := 4) sc_least_machine.nd rfl (.inl rfl)) (pgs_cons (pg_name (i := 5) sc_least_machine.nd rfl (.inl rfl)) pgs_nil)))
        (pss_one (ps_if (pt_cmpR op_eq (pv 4) (pe_callB call_len_seq (by rfl) mn PySem.boot_len (pa_cons (pv 3) pa_nil)) (nomark _))
          (pss_one (ps_expr (pe_bm PySem.F.plainAttrs_list PySem.F.slot_list_append PySem.F.type_list_append mt_append (pv 3) (pa_cons
            (pe_lc (own := [("bit", 6), ("after", 7)]) (g := gTup K 2 (gCons (gName 6) (gCons (gName 7) gNil))) (by rfl) sc_least_machine.nd (pi_list (pv 5)) (blkOk_by (own := [("bit", 6), ("after", 7)]) (N := N_least_machine) (sc := defScope s_least_machine) (by decide +kernel))
              (fun _ _ _ _ _ => pg_tup rfl (pgs_cons (pg_name (i := 6) sc_least_machine.nd rfl (.inl rfl)) (pgs_cons (pg_name (i := 7) sc_least_machine.nd rfl (.inl rfl)) pgs_nil))) (fun _ _ _ _ _ => pts_nil)
              (fun _ _ _ _ _ => pe_tup (pa_cons (pv 6) (pa_cons (pe_ix (r := rIxL K) ix_list (pv 2) (pv 7) (fun _ _ => rfl)) pa_nil)))) pa_nil)))) pss_nil)))
      (pss_one (ps_ret (pv 3)))))), ?_⟩
    refine ⟨.ref R, rfl, R, m, o, ds, rfl, hrow, hok, fun H1 p ls cs mac s1 np ep hmac wm hl => ?_⟩
    have ok := wm_ok wm hl (by have := hok.m3; omega) hok.len
    have few := ok.few
    have lml := awLen hmac
    refine ⟨.ref p, rfl, p, ls, mac, rfl, ep, hmac, ok, fun H2 Kd ns s2 nK eK kk => ?_⟩
    have nl := kk.len
    refine ⟨Nat.zero_le _, fun L hL => ?_⟩
    have sL := same_new (o := .lst []) hL
    have nLK : Kd ≠ L := ne_of_none eK hL
    have ep2 := s2 _ _ ep
    have npL : p ≠ L := ne_of_none ep2 hL
    have hmac2 := macl_same s2 hmac
    refine ⟨.ref Kd, rfl, .ref p, rfl, Kd, p, _, _, rfl, .inl (.inl (sL _ _ eK)), .inl (.inl (sL _ _ ep2)), for_it (walk_zip (K := K) (a := Kd) (b := p) (xs := (zs ns).map V.int) (ys := ls.map V.ref) (n := ns.length) (by rw [List.length_map, List.length_map, List.length_map]; omega)) (fun i σ H3 => ∃ y4 y5 y6 y7 ms lm, σ = [some (.ref R), some (.ref p), some (.ref Kd), some (.ref L), y4, y5, y6, y7] ∧ H3 L = some (.lst (ms.map V.ref)) ∧ MacL H3 ms lm ∧ LInv mac ns lm i ∧ (∀ l ∈ ms, l ≠ L) ∧ ∀ b u, H2 b = some u → H3 b = some u)
      ⟨none, none, none, none, [], [], rfl, upd_same, .nil, ⟨fun k row e => by simp at e, fun j k hj => absurd hj (Nat.not_lt_zero _), Nat.le_refl _⟩, (fun _ z => nomatch z), sL⟩ (fun i σ H3 _ hp => ?_) (fun i x σ H3 H4 hi hp hy => ?_) (fun σ H3 hp => ?_)⟩
    · obtain ⟨_, _, _, _, _, _, _, _, _, _, _, st⟩ := hp
      exact ⟨.inl (.inl (st _ _ eK)), .inl (.inl (st _ _ ep2))⟩
    · obtain ⟨y4, y5, y6, y7, ms, lm, rfl, eL, hms, li, nms, st⟩ := hp
      obtain ⟨U, x1, x2, rfl, hU, rfl, g1, g2⟩ := hy
      have hil : i < ls.length := by omega
      have e1 : x1 = .int ((ns[i] : Nat) : Int) := by
        have g1' : ((zs ns).map V.int)[i]? = some x1 := g1
        rw [List.getElem?_map, List.getElem?_map, List.getElem?_eq_getElem hi] at g1'
        exact (Option.some.inj g1').symm
      have e2 : x2 = .ref ls[i] := by
        have g2' : (ls.map V.ref)[i]? = some x2 := g2
        rw [List.getElem?_map, List.getElem?_eq_getElem hil] at g2'
        exact (Option.some.inj g2').symm
      subst e1 e2
      have sU := same_new (o := .tup [.int ((ns[i] : Nat) : Int), .ref ls[i]]) hU
      have eLU := sU _ _ eL
      have mll := awLen hms
      have lil := li.len
      refine ⟨U, [.int ((ns[i] : Nat) : Int), .ref ls[i]], rfl, .inl (.inl upd_same), rfl, .int ((ns[i] : Nat) : Int), [.ref ls[i]], rfl, .ref ls[i], [], rfl, rfl, ?_⟩
      refine ⟨.int ((ns[i] : Nat) : Int), rfl, .ref L, rfl, L, _, rfl, .inl (.inl (.inl eLU)), rfl, _, rfl, ite2 (fun e => ?_) (fun e => ?_)⟩
      · have hk : ns[i]? = some lm.length := by
          rw [List.getElem?_eq_getElem hi]
          have := V.int.inj (of_decide_eq_true e)
          rw [List.length_map] at this
          congr 1
          omega
        obtain ⟨row, hr1, qs, eq, hq⟩ := awGet hmac2 (List.getElem?_eq_getElem hil)
        have rm := List.mem_of_getElem? hr1
        have r8 := ok.rows row rm
        have ql := awLen hq
        have st2 : ∀ b u, H2 b = some u → upd H3 U (.tup [.int ((ns[i] : Nat) : Int), .ref ls[i]]) b = some u := fun b u z => sU _ _ (st b u z)
        refine ⟨.ref L, rfl, .inl ⟨rfl, _, .inl (.inl eLU)⟩, .ref ls[i], rfl, ls[i], rfl, ⟨_, .inl (.inl (st2 _ _ eq))⟩, fun G hG => ?_⟩
        refine lc_it (walk_list (K := K) (a := ls[i]) (xs := qs.map V.ref)) (fun t H6 => ∃ ws, H6 G = some (.lst (ws.map V.ref)) ∧ PrAt H6 ws ((low ns row).take t) ∧ Same (upd H3 U (.tup [.int ((ns[i] : Nat) : Int), .ref ls[i]])) H6) ⟨[], upd_same, .nil, same_new hG⟩ (fun t H6 _ hp => ?_) (fun t x H6 H7 ht hp hy => ?_) (fun H6 hp => ?_)
        · obtain ⟨_, _, _, s6⟩ := hp
          exact .inl (.inl (s6 _ _ (st2 _ _ eq)))
        · obtain ⟨ws, eG, hw, s6⟩ := hp
          obtain ⟨rfl, hx⟩ := hy
          have ht2 : t < qs.length := by rwa [List.length_map] at ht
          have hx' : x = .ref qs[t] := by
            rw [List.getElem?_map, List.getElem?_eq_getElem ht2] at hx
            exact (Option.some.inj hx).symm
          subst hx'
          obtain ⟨e, he1, he2⟩ := awGet hq (List.getElem?_eq_getElem ht2)
          obtain ⟨j, hj1, hj2⟩ := ok.ends row rm e (List.mem_of_getElem? he1)
          have jn : j < ns.length := by omega
          have gd : ns.getD e.2.toNat 0 = ns[j] := by
            rw [hj1, Int.toNat_natCast]
            simp [List.getD, List.getElem?_eq_getElem jn]
          have wl := awLen hw
          rw [List.length_take] at wl
          refine ⟨qs[t], [.int e.1, .int e.2], rfl, .inl (.inl (s6 _ _ (st2 _ _ he2))), rfl, .int e.1, [.int e.2], rfl, .int e.2, [], rfl, rfl, rfl, .int e.1, rfl, .ref Kd, rfl, .int e.2, rfl, Kd, _, e.2, .int ((ns[j] : Nat) : Int), rfl, rfl, .inl (.inl (s6 _ _ (st2 _ _ eK))), ?_, by show 2 ≤ sizeLine; decide, fun T hT => ?_⟩
          · rw [hj1]
            exact atI_nat (by rw [List.getElem?_map, List.getElem?_map, List.getElem?_eq_getElem jn]; rfl)
          have sT := same_new (o := .tup [.int e.1, .int ((ns[j] : Nat) : Int)]) hT
          have eG2 := sT _ _ eG
          have tp := tups_put (o := .lst (ws.map V.ref ++ [V.ref T])) eG2
          refine ⟨_, eG2, ?_, ws ++ [T], ?_, ?_, fun b u z => ?_⟩
          · rw [List.length_map]
            exact small1000 (by omega)
          · rw [upd_same, List.map_append]
            rfl
          · rw [List.take_add_one, List.getElem?_map, he1, Option.map_some, gd]
            exact prat_stay tp (awSnoc (F := fun (q : Addr) (e' : Int × Int) => (upd H7 T (.tup [.int e.1, .int ((ns[j] : Nat) : Int)])) q = some (.tup [.int e'.1, .int e'.2])) upd_same (prat_stay (Same.tups sT) hw))
          · rw [upd_ne (ne_of_none z hG)]
            exact sT _ _ (s6 b u z)
        · obtain ⟨ws, eG, hw, s6⟩ := hp
          rw [List.length_map, ql, ← List.length_map (as := row) (f := fun e => (e.1, ((ns.getD e.2.toNat 0 : Nat) : Int))), List.take_length] at hw
          have eL6 := s6 _ _ eLU
          have tp := tups_put (o := .lst (ms.map V.ref ++ [V.ref G])) eL6
          have nGL : G ≠ L := fun z => by rw [z, eLU] at hG; cases hG
          refine ⟨L, _, _, rfl, rfl, eL6, ?_, _, _, _, _, ms ++ [G], lm ++ [low ns row], rfl, ?_, ?_, li.new hk hr1, fun l hl => ?_, fun b u z => ?_⟩
          · rw [List.length_map]
            exact small1000 (by omega)
          · rw [upd_same, List.map_append]
            rfl
          · refine awSnoc (F := RowL (upd H6 L (.lst (ms.map V.ref ++ [V.ref G])))) ⟨ws, ?_, prat_stay tp hw⟩ (macl_stay ((Same.tups (sU.trans s6)).trans tp) (fun l hl xs z => ?_) hms)
            · rw [upd_ne nGL]
              exact eG
            · rw [upd_ne (nms l hl)]
              exact s6 _ _ (sU _ _ z)
          · rcases List.mem_append.mp hl with hl | hl
            · exact nms l hl
            · rw [List.mem_singleton.mp hl]
              exact nGL
          · rw [upd_ne (ne_of_none z hL)]
            exact s6 _ _ (st2 b u z)
      · have hk : ns[i] ≠ lm.length := fun z => e (by
          apply decide_eq_true
          rw [List.length_map, mll, z])
        exact ⟨_, _, _, _, ms, lm, rfl, eLU, macl_same sU hms, li.old kk.rg (List.getElem?_eq_getElem hi) hk, nms, fun b u z => sU _ _ (st b u z)⟩
    · obtain ⟨y4, y5, y6, y7, ms, lm, rfl, eL, hms, li, nms, st⟩ := hp
      have lil := li.len
      exact ⟨.ref L, rfl, q H3 L ms lm (fun b u z => st _ _ (s2 _ _ (s1 b u z))) ((s1.trans s2).free hL) eL hms ⟨⟨_, li.sim kk wm hl ok.pos⟩, by omega, cs, mac, ns, wm, hl, kk, li⟩⟩
/-- what a kind of states tells, and the kinds behind it -/
def nxK (mac : List MRow) (ns : List Nat) (k : Nat) : List (Int × Nat) := (mac.getD (ns.findIdx fun u => decide (u = k)) []).map fun e => (e.1, ns.getD e.2.toNat 0)
theorem fst_at {ns : List Nat} {k i : Nat} (h : ns[i]? = some k) : ns[ns.findIdx fun u => decide (u = k)]? = some k ∧ (ns.findIdx fun u => decide (u = k)) ≤ i := by
  have hlt : (ns.findIdx fun u => decide (u = k)) < ns.length := List.findIdx_lt_length_of_exists ⟨k, List.mem_of_getElem? h, by simp⟩
  refine ⟨?_, ?_⟩
  · rw [List.getElem?_eq_getElem hlt]
    exact congrArg some (of_decide_eq_true (List.findIdx_getElem (w := hlt)))
  · apply Nat.le_of_not_lt
    intro z
    have := List.not_of_lt_findIdx z
    obtain ⟨hl, e⟩ := List.getElem?_eq_some_iff.mp h
    exact absurd e (of_decide_eq_false this)
theorem low_nx {ns : List Nat} : ∀ {r s : MRow}, r.map (·.1) = s.map (·.1) → beh ns r = beh ns s → (r.map fun e => (e.1, ns.getD e.2.toNat 0)) = s.map fun e => (e.1, ns.getD e.2.toNat 0)
  | [], [], _, _ => rfl
  | [], _ :: _, h, _ => nomatch h
  | _ :: _, [], h, _ => nomatch h
  | x :: r, y :: s, h1, h2 => by
    simp only [beh, List.map_cons, List.cons.injEq] at h1 h2
    simp only [List.map_cons, List.cons.injEq]
    exact ⟨Prod.ext h1.1 (Int.ofNat.inj h2.1), low_nx h1.2 h2.2⟩
theorem nxK_at {mac : List MRow} {ns : List Nat} (kk : KOk mac ns) {i k : Nat} {r : MRow} (h : ns[i]? = some k) (hr : mac[i]? = some r) : nxK mac ns k = r.map fun e => (e.1, ns.getD e.2.toNat 0) := by
  obtain ⟨h1, _⟩ := fst_at h
  have l1 := (List.getElem?_eq_some_iff.mp h1).1
  have kl := kk.len
  have e : mac[ns.findIdx fun u => decide (u = k)]? = some (mac[ns.findIdx fun u => decide (u = k)]'(by omega)) := List.getElem?_eq_getElem (by omega)
  unfold nxK
  rw [List.getD_eq_getElem?_getD, e]
  exact low_nx (kk.bits _ _ _ _ _ h1 h e hr) (kk.next _ _ _ _ _ h1 h e hr)
theorem linv_mem {mac lm : List MRow} {ns : List Nat} (h : LInv mac ns lm ns.length) (k : Nat) : k < lm.length ↔ k ∈ ns := by
  constructor
  · intro hk
    obtain ⟨i0, r, h1, _⟩ := h.each k lm[k] (List.getElem?_eq_getElem hk)
    exact List.mem_of_getElem? h1
  · intro hk
    obtain ⟨j, hj⟩ := List.mem_iff_getElem?.mp hk
    exact h.all j k (List.getElem?_eq_some_iff.mp hj).1 hj
theorem linv_row {mac lm : List MRow} {ns : List Nat} (h : LInv mac ns lm ns.length) (kk : KOk mac ns) {k : Nat} {row : MRow} (e : lm[k]? = some row) : row = (nxK mac ns k).map fun e => (e.1, (e.2 : Int)) := by
  obtain ⟨i0, r, h1, h2, h3⟩ := h.each k row e
  rw [h3, nxK_at kk h1 h2, List.map_map]
  rfl
/-- the kept steps of some carries -/
structure Kept (H : Hp) (m : Nat) (ds : List Deed) (o : Int) (es : List (List Int × Addr)) : Prop where
  nd : (es.map (·.1)).Nodup
  bits : ∀ e ∈ es, e.1.length = ds.length ∧ ∀ x ∈ e.1, Bit x
  each : ∀ e ∈ es, ∃ ps, H e.2 = some (.lst (ps.map V.ref)) ∧ StAt H ps (stp m ds o e.1)
def spKs : Sp := fun vs H Q _ => ∃ (D R C : Addr) (m : Nat) (o : Int) (ds : List Deed) (cs : List Int) (es : List (List Int × Addr)), vs = [.ref D, .ref R, .ref C] ∧ H D = some (.dT (emb V.ref es)) ∧ Kept H m ds o es ∧ RowAt H R m ds o ∧ RowOk m ds o ∧ H C = some (.tup (cs.map V.int)) ∧ cs.length = ds.length ∧ (∀ x ∈ cs, Bit x) ∧
  ∀ H' p ps es', But D H H' → H' D = some (.dT (emb V.ref es')) → Kept H' m ds o es' → (∀ e ∈ es, e ∈ es') → (∀ e ∈ es', e ∈ es ∨ H e.2 = none) → (cs, p) ∈ es' → H' p = some (.lst (ps.map V.ref)) → StAt H' ps (stp m ds o cs) → Q (.ref p) H'
theorem ok_ks {f fS : Addr} {fd fdS : FuncData} {k : Nat} (F : Fun K "kept_steps" "kept_steps" s_kept_steps f fd)
    (GS : FnOk P w K mg base CX0 (k + 4) fS fdS ["row", "carry"] spSt) (kS : PySem.W.keepIn K (.ref fS) = true) (bS : Binds K fdS ["row", "carry"] []) (gS : mg "steps" = some (.ref fS)) : FnOk P w K mg base CX0 (k + 5) f fd ["kept", "row", "carry"] spKs := by
  refine F.ok sc_kept_steps (fun vs H Q E h => ?_) (fun cdv A outer s H vs Q E hr h => ?_)
  · obtain ⟨D, R, C, m, o, ds, cs, es, rfl, _⟩ := h
    rfl
  · obtain ⟨D, R, C, m, o, ds, cs, es, rfl, eD, kp, hrow, hok, eC, hcl, hcb, q⟩ := h
    have hu := hu_of hr
    refine ⟨_, pss_mid (ps_if (pt_cmp (pc_dnotin hu (pv 2) (pv 0))) (pss_one (ps_dput hu (pv 0) (pv 2) (pe_call GS hr (by rfl) gS kS bS .nil pass0 (pa_cons (pv 1) (pa_cons (pv 2) pa_nil))) rfl)) pss_nil)
      (pss_one (ps_ret (pe_dget hu (pv 0) (pv 2) (fun _ _ => rfl)))), ?_⟩
    have key : ∀ {H' : Hp}, H' C = some (.tup (cs.map V.int)) → H' C = some (.tup ((kI cs).map kV)) := fun e => by rw [kI_V]; exact e
    have l8 := hok.len
    refine ⟨fun σ2 H2 => ∃ es', σ2 = [some (.ref D), some (.ref R), some (.ref C)] ∧ But D H H2 ∧ H2 C = some (.tup (cs.map V.int)) ∧ H2 D = some (.dT (emb V.ref es')) ∧ Kept H2 m ds o es' ∧ (∀ e ∈ es, e ∈ es') ∧ (∀ e ∈ es', e ∈ es ∨ H e.2 = none) ∧ ∃ p, (cs, p) ∈ es', ?_, ?_⟩
    · refine ⟨.ref C, rfl, .ref D, rfl, D, _, rfl, DGet.t eD (key eC), _, rfl, ?_⟩
      rw [emb_get]
      cases eg : getA es cs with
      | some p =>
        exact ⟨es, rfl, But.refl D H, eC, eD, kp, fun e h => h, fun e h => .inl h, p, getA_some eg⟩
      | none =>
        refine ⟨.ref R, rfl, .ref C, rfl, R, C, m, o, ds, cs, rfl, hrow, hok, eC, hcl, fun H1 p ps s1 np ep hs => ?_⟩
        have eD1 := s1 _ _ eD
        have npD : p ≠ D := fun z => by rw [z, eD] at np; cases np
        refine ⟨.ref D, rfl, .ref C, rfl, D, _, rfl, DPut.t eD1 (key (s1 _ _ eC)) ?_, putA es cs p, rfl, ?_, ?_, ?_, ?_, ?_, ?_, ?_⟩
        · unfold emb
          rw [List.length_map]
          have := few_keys kp.nd kp.bits l8
          exact small1000 (by omega)
        · intro b u nb e
          rw [upd_ne nb]
          exact s1 b u e
        · rw [upd_ne (ne_of eC eD (fun z => nomatch z))]
          exact s1 _ _ eC
        · rw [upd_same, emb_put]
        · have ts : TupsStay H1 (upd H1 D (.dT (putK (emb V.ref es) (kI cs) (.ref p)))) := fun b xs e => by
            rw [upd_ne (ne_of e eD1 (fun z => nomatch z))]
            exact e
          refine ⟨putA_nodup kp.nd, fun e he => ?_, fun e he => ?_⟩
          · rcases mem_putA.mp he with rfl | ⟨h1, _⟩
            · exact ⟨hcl, hcb⟩
            · exact kp.bits e h1
          · rcases mem_putA.mp he with rfl | ⟨h1, _⟩
            · refine ⟨ps, ?_, stat_stay ts hs⟩
              rw [upd_ne npD]
              exact ep
            · obtain ⟨ps2, h2, h3⟩ := kp.each e h1
              refine ⟨ps2, ?_, stat_stay ts (stat_stay (Same.tups s1) h3)⟩
              rw [upd_ne (ne_of (s1 _ _ h2) eD1 (fun z => nomatch z))]
              exact s1 _ _ h2
        · intro e he
          refine mem_putA.mpr (.inr ⟨he, fun z => ?_⟩)
          exact getA_none.mp eg (List.mem_map.mpr ⟨e, he, z⟩)
        · intro e he
          rcases mem_putA.mp he with rfl | ⟨h1, _⟩
          · exact .inr np
          · exact .inl h1
        · exact ⟨p, mem_putA.mpr (.inl rfl)⟩
    · rintro σ2 H2 ⟨es', rfl, b2, eC2, eD2, kp2, hsub, hnew, p, hp⟩
      obtain ⟨ps, e1, e2⟩ := kp2.each _ hp
      refine ⟨.ref D, rfl, .ref C, rfl, D, .ref p, rfl, ?_, q H2 p ps es' b2 eD2 kp2 hsub hnew hp e1 e2⟩
      have g := DGet.t eD2 (key eC2)
      rw [emb_get, getA_of kp2.nd hp] at g
      exact g
theorem row0 {m o : Int} {D : Addr} : atI [V.int m, .ref D, .int o] 0 = some (.int m) := atI_nat (j := 0) rfl
theorem app_len (x y : Str) : (x ++ y).length = x.length + y.length := by
  rw [TL.len_tl, TL.tl_append, List.length_append, ← TL.len_tl, ← TL.len_tl]
theorem js_len {acc y : Str} {a b : Nat} (h1 : acc.length ≤ a) (h2 : y.length ≤ b) (h : a + b ≤ 1000) : (acc ++ y).length ≤ sizeLine ∧ (acc ++ y).length ≤ a + b := by
  rw [app_len, sizeLine_eq]
  omega
theorem iX_len {i : Int} (h : i.natAbs < 10 ^ 3) : (Str.ofString (toString i)).length ≤ 4 := by
  rw [PySem.ofString_length]
  exact int_text_length_le10 (k := 3) (by decide) h
theorem log_small {i : Int} (h : i.natAbs < 1000) : i.natAbs.log2 < 1920 := by
  by_cases e : i.natAbs = 0
  · rw [e]; decide
  · have := (Nat.log2_lt (k := 10) e).mpr (Nat.lt_trans h (by decide))
    omega
theorem neT {x y : Int} (h : (!decide (V.int x = V.int y)) = true) : ¬ x = y := fun e => by
  rw [decide_eq_true (congrArg V.int e)] at h
  cases h
theorem neF {x y : Int} (h : ¬ (!decide (V.int x = V.int y)) = true) : x = y := by
  by_cases e : x = y
  · exact e
  · exfalso
    apply h
    rw [decide_eq_false (fun z => e (V.int.inj z))]
    rfl
/-- a class of the program whose instances are raised -/
structure Rai (K : PySem.W.Frag) (mg : Str → Option Value) (x : Str) (C : Addr) : Prop where
  q : PySem.W.excIn K C [.type "ValueError", .type "Exception", .type "BaseException", .type "object"] "ValueError.__new__" = true
  g : mg x = some (.ref C)
  k : PySem.W.keepIn K (.ref C) = true
  s : PySem.W.subIn K (.ref C) (.type "BaseException") = some true
  t : PySem.W.typeIn K (.ref C) = some (.type "type")
def ob (ds : List Deed) (o : Int) (c bs : List Int) : Int := (bts ds c bs).getD o.toNat 0
def nc (ds : List Deed) (c bs : List Int) : List Int := nxt ds c (bts ds c bs)
theorem bits_eq {v u : Int} : ∀ (w : Nat), (∀ s, s < w → bitA s v = bitA s u) → v % 2 ^ w = u % 2 ^ w
  | 0, _ => by
    rw [Int.pow_zero, Int.emod_one, Int.emod_one]
  | w + 1, h => by
    have ih := bits_eq w fun s hs => h s (by omega)
    have hb := h w (by omega)
    have e1 := low_next v (pw_pos w)
    have e2 := low_next u (pw_pos w)
    rw [Int.mul_comm 2, ← Int.pow_succ] at e1 e2
    unfold bitA at hb
    rw [e1, e2, ih, hb]
section revs
variable {X : Cx} {e st : Expr} {te ts : TE} {pos p2 : Pos}
theorem range_get {α : Type} : ∀ l : List α, (List.range l.length).filterMap (l[·]?) = l
  | [] => rfl
  | x :: l => by
    rw [List.length_cons, List.range_succ_eq_map, List.filterMap_cons]
    show x :: ((List.range l.length).map Nat.succ).filterMap _ = _
    rw [List.filterMap_map]
    congr 1
    exact range_get l
theorem fm_congr {α β : Type} {f g : α → Option β} : ∀ l : List α, (∀ x ∈ l, f x = g x) → l.filterMap f = l.filterMap g
  | [], _ => rfl
  | x :: l, h => by
    rw [List.filterMap_cons, List.filterMap_cons, h x List.mem_cons_self, fm_congr l fun y hy => h y (List.mem_cons_of_mem _ hy)]
theorem slicePick_rev (its : List Value) : slicePick its.toArray none none (some (-1)) = its.reverse.toArray := by
  unfold slicePick
  congr 1
  have hb : sliceBounds none none (some (-1)) its.toArray.size = ((its.length : Int) - 1, -1, -1) := by
    simp [sliceBounds]
  rw [hb]
  unfold sliceRange
  have hc : (if (-1 : Int) > 0 then (if ((its.length : Int) - 1) < -1 then (-1 - ((its.length : Int) - 1) + -1 - 1) / -1 else 0) else (if ((its.length : Int) - 1) > -1 then (((its.length : Int) - 1) - -1 - -1 - 1) / (- -1) else 0)) = (its.length : Int) := by
    rw [if_neg (by decide)]
    by_cases h : ((its.length : Int) - 1) > -1
    · rw [if_pos h, show (- -1 : Int) = 1 by decide, Int.ediv_one]
      omega
    · rw [if_neg h]
      omega
  show ((List.range (if (-1 : Int) > 0 then (if ((its.length : Int) - 1) < -1 then (-1 - ((its.length : Int) - 1) + -1 - 1) / -1 else 0) else (if ((its.length : Int) - 1) > -1 then (((its.length : Int) - 1) - -1 - -1 - 1) / (- -1) else 0)).toNat).map fun (k : Nat) => ((its.length : Int) - 1 + -1 * (k : Int)).toNat).filterMap (its.toArray[·]?) = its.reverse
  rw [hc, Int.toNat_natCast, List.filterMap_map]
  have e := range_get its.reverse
  rw [List.length_reverse] at e
  refine Eq.trans (fm_congr _ fun k hk => ?_) e
  have hk' := List.mem_range.mp hk
  show its.toArray[((its.length : Int) - 1 + -1 * (k : Int)).toNat]? = its.reverse[k]?
  rw [List.getElem?_toArray, List.getElem?_reverse hk']
  congr 1
  omega
def tRev (K : PySem.W.Frag) (te ts : TE) : TE := fun σ H Q => te σ H fun x H1 => ts σ H1 fun y H2 => ∃ a xs, y = .int (-1) ∧ x = .ref a ∧ SqL K H2 a xs ∧ ∀ p, H2 p = none → Q (.ref p) (upd H2 p (.lst xs.reverse))
theorem pe_rev (he : PE X e te) (hs : PE X st ts) : PE X (.Subscript e (.Slice none none (some st) p2) pos) (tRev X.K te ts) := by
  refine ⟨fun pins s σ H Q I h => ?_⟩
  refine Subscript_ (thn (he.run pins s σ H _ I h) ?_)
  rintro v s1 ⟨x, H1, I1, r1, q1⟩
  apply wpAny_Slice
  rw [evalPart_none]
  refine wpAny_pure ?_
  refine wpAny_pure ?_
  rw [evalPart_some]
  refine thn (hs.run pins s1 σ H1 _ I1 q1) ?_
  rintro vs s3 ⟨y, H3, I3, ry, a, xs, rfl, rfl, hx, q3⟩
  obtain ⟨tk, rfl⟩ := ry
  cases r1
  have I4 : Inv X pins σ H3 { s3 with heap := s3.heap.push { cls := .type "slice", data := .fields #[.none, .none, .int (-1) tk] } } := I3.kept (t' := s3.toks) fun b ob q => Heap.get?_push_of_some _ q
  obtain ⟨its, r, ht, hz⟩ := I4.list hx
  have hlen := r.length
  show wpAny (model X.prog X.w) X.A (subscriptTail e (.Slice none none (some st) p2) (.ref a) (.ref s3.heap.objs.size)) (EP X pins σ Q) X.xe { s3 with heap := s3.heap.push { cls := .type "slice", data := .fields #[.none, .none, .int (-1) tk] } }
  refine tail_any (ops := [.ref a, .ref s3.heap.objs.size]) ht.isList.typeIs slot_list_getitem.lookup ?_ (by with_unfolding_all rfl)
  refine wpAny_getItem_list_slice ht.isList (Heap.IsSliceOf.new ..) .none .none (.int (-1) tk) (by decide) ?_ (by rw [List.size_toArray] <;> omega)
  rw [slicePick_rev]
  refine ⟨.ref _, _, I4.laid (t' := s3.toks) (o := .lst xs.reverse) (fun b ob q => Heap.get?_push_of_some _ q) (Nat.le_refl _) ?_, rfl, q3 _ ?_⟩
  · exact ⟨by rw [List.length_reverse]; exact hz, _, 0, r.reverse, Heap.get?_push_size _ rfl⟩
  · exact I4.hok.fresh (Nat.le_refl _)
end revs
abbrev Bst2 := (Int × List Int) × (Int × List Int)
def BsE2 (H : Hp) (t : Addr) (e : Bst2) : Prop := ∃ c c1 c2, H t = some (.tup [.int e.1.1, .int e.2.1, .ref c]) ∧ H c = some (.tup [.ref c1, .ref c2]) ∧ H c1 = some (.tup (e.1.2.map V.int)) ∧ H c2 = some (.tup (e.2.2.map V.int))
abbrev BsAt2 (H : Hp) : List Addr → List Bst2 → Prop := Paired (BsE2 H)
theorem bse2_stay {H H' : Hp} (t : TupsStay H H') {a : Addr} {e : Bst2} (h : BsE2 H a e) : BsE2 H' a e := by
  obtain ⟨c, c1, c2, h1, h2, h3, h4⟩ := h
  exact ⟨c, c1, c2, t _ _ h1, t _ _ h2, t _ _ h3, t _ _ h4⟩
theorem bsat2_stay {H H' : Hp} (t : TupsStay H H') {ts : List Addr} {l : List Bst2} (h : BsAt2 H ts l) : BsAt2 H' ts l := awMap (fun _ _ z => bse2_stay t z) h
def StL (H : Hp) (l : Addr) (r : List (Int × List Int)) : Prop := ∃ qs, H l = some (.lst (qs.map V.ref)) ∧ StAt H qs r
def spBs2 : Sp := fun vs H Q _ => ∃ (l1 l2 : Addr) (r1 r2 : List (Int × List Int)), vs = [.ref l1, .ref l2] ∧ StL H l1 r1 ∧ StL H l2 r2 ∧ r1.length = r2.length ∧ r1.length ≤ 8 ∧
  ∀ H' p ts, Same H H' → H p = none → H' p = some (.lst (ts.map V.ref)) → BsAt2 H' ts (r1.zip r2) → Q (.ref p) H'
theorem ok_bs2 {f : Addr} {fd : FuncData} {k : Nat} (F : Fun K "both_steps" "both_steps" s_both_steps f fd) (mz : mg "zip" = none) : FnOk P w K mg base CX0 (k + 1) f fd ["ones", "others"] spBs2 := by
  refine F.ok sc_both_steps (fun vs H Q E h => ?_) (fun cdv A outer s H vs Q E hr h => ?_)
  · obtain ⟨l1, l2, r1, r2, rfl, _⟩ := h
    rfl
  · obtain ⟨l1, l2, r1, r2, rfl, ⟨qs1, e1, h1⟩, ⟨qs2, e2, h2⟩, hl, h8, q⟩ := h
    refine ⟨_, pss_one (ps_ret (pe_lc (own := [("bit", 2), ("after", 3), ("others_bit", 4), ("others_after", 5)]) (g := gTup K 2 (gCons (gTup K 2 (gCons (gName 2) (gCons (gName 3) gNil))) (gCons (gTup K 2 (gCons (gName 4) (gCons (gName 5) gNil))) gNil))) (by rfl) sc_both_steps.nd (pi_zip (by rfl) mz (pa_cons (pv 0) (pa_cons (pv 1) pa_nil)))
        (blkOk_by (own := [("bit", 2), ("after", 3), ("others_bit", 4), ("others_after", 5)]) (N := N_both_steps) (sc := defScope s_both_steps) (by decide +kernel))
        (fun _ _ _ _ _ => pg_tup rfl (pgs_cons (pg_tup rfl (pgs_cons (pg_name (i := 2) sc_both_steps.nd rfl (.inl rfl)) (pgs_cons (pg_name (i := 3) sc_both_steps.nd rfl (.inl rfl)) pgs_nil))) (pgs_cons (pg_tup rfl (pgs_cons (pg_name (i := 4) sc_both_steps.nd rfl (.inl rfl)) (pgs_cons (pg_name (i := 5) sc_both_steps.nd rfl (.inl rfl)) pgs_nil))) pgs_nil)))
        (fun _ _ _ _ _ => pts_nil) (fun _ _ _ _ _ => pe_tup (pa_cons (pv 2) (pa_cons (pv 4) (pa_cons (pe_tup (pa_cons (pv 3) (pa_cons (pv 5) pa_nil))) pa_nil)))))), ?_⟩
    have q1 := awLen h1
    have q2 := awLen h2
    refine ⟨.ref l1, rfl, .ref l2, rfl, l1, l2, _, _, rfl, .inl (.inl e1), .inl (.inl e2), fun L hL => ?_⟩
    refine lc_it (walk_zip (K := K) (a := l1) (b := l2) (xs := qs1.map V.ref) (ys := qs2.map V.ref) (n := r1.length) (by rw [List.length_map, List.length_map, q1, q2, ← hl, Nat.min_self])) (fun j H4 => ∃ ts, H4 L = some (.lst (ts.map V.ref)) ∧ BsAt2 H4 ts ((r1.zip r2).take j) ∧ Same H H4) ⟨[], upd_same, .nil, same_new hL⟩ (fun j H4 _ h4 => ?_) (fun j x H4 H5 hj h4 hx => ?_) (fun H4 h4 => ?_)
    · obtain ⟨_, _, _, s4⟩ := h4
      exact ⟨.inl (.inl (s4 _ _ e1)), .inl (.inl (s4 _ _ e2))⟩
    · obtain ⟨ts, eL, hts, s4⟩ := h4
      obtain ⟨U, x1, x2, rfl, hU, rfl, g1, g2⟩ := hx
      have hj1 : j < qs1.length := by omega
      have hj2 : j < qs2.length := by omega
      have e1' : x1 = .ref qs1[j] := by
        have g1' : (qs1.map V.ref)[j]? = some x1 := g1
        rw [List.getElem?_map, List.getElem?_eq_getElem hj1] at g1'
        exact (Option.some.inj g1').symm
      have e2' : x2 = .ref qs2[j] := by
        have g2' : (qs2.map V.ref)[j]? = some x2 := g2
        rw [List.getElem?_map, List.getElem?_eq_getElem hj2] at g2'
        exact (Option.some.inj g2').symm
      subst e1' e2'
      obtain ⟨a, ha1, ca, ha2, ha3⟩ := awGet h1 (List.getElem?_eq_getElem hj1)
      obtain ⟨b, hb1, cb, hb2, hb3⟩ := awGet h2 (List.getElem?_eq_getElem hj2)
      have sU := same_new (o := .tup [.ref qs1[j], .ref qs2[j]]) hU
      have f1 := sU _ _ (s4 _ _ ha2)
      have f2 := sU _ _ (s4 _ _ hb2)
      refine ⟨U, [.ref qs1[j], .ref qs2[j]], rfl, .inl (.inl upd_same), rfl, .ref qs1[j], [.ref qs2[j]], rfl, qs1[j], [.int a.1, .ref ca], rfl, .inl (.inl f1), rfl, .int a.1, [.ref ca], rfl, .ref ca, [], rfl, rfl, .ref qs2[j], [], rfl, qs2[j], [.int b.1, .ref cb], rfl, .inl (.inl f2), rfl, .int b.1, [.ref cb], rfl, .ref cb, [], rfl, rfl, rfl, rfl, ?_⟩
      refine ⟨.int a.1, rfl, .int b.1, rfl, .ref ca, rfl, .ref cb, rfl, (by show 2 ≤ sizeLine; decide), fun C hC => ⟨(by show 3 ≤ sizeLine; decide), fun T hT => ?_⟩⟩
      have sC := same_new (o := .tup [.ref ca, .ref cb]) hC
      have sT := same_new (o := .tup [.int a.1, .int b.1, .ref C]) hT
      have s5 := sU.trans (sC.trans sT)
      have eL5 := s5 _ _ eL
      have lt := awLen hts
      rw [List.length_take] at lt
      have hz : (r1.zip r2)[j]? = some (a, b) := by
        rw [List.getElem?_zip_eq_some]
        exact ⟨ha1, hb1⟩
      refine ⟨_, eL5, ?_, ts ++ [T], ?_, ?_, ?_⟩
      · rw [List.length_map]
        exact small1000 (by omega)
      · rw [upd_same, List.map_append]
        rfl
      · rw [List.take_add_one, hz]
        exact bsat2_stay (tups_put eL5) (awSnoc (F := BsE2 _) (y := (a, b)) ⟨C, ca, cb, upd_same, sT _ _ upd_same, s5 _ _ (s4 _ _ ha3), s5 _ _ (s4 _ _ hb3)⟩ (bsat2_stay (Same.tups s5) hts))
      · intro b' u e
        rw [upd_ne (ne_of_none e hL)]
        exact s5 _ _ (s4 _ _ e)
    · obtain ⟨ts, eL, hts, s4⟩ := h4
      have : (r1.zip r2).length = r1.length := by rw [List.length_zip, ← hl, Nat.min_self]
      rw [← this, List.take_length] at hts
      exact q H4 L ts s4 hL eL hts
abbrev sWalk_bits_to : Stmt := inClass c_Walk 2
theorem scWb : FnScope ["self", "number", "told", "bits"] ["self", "number"] (defScope sWalk_bits_to) := ⟨rfl, rfl, rfl, by decide +kernel, rfl, by decide +kernel, by decide +kernel⟩
/-- the bits on the way to a number: each way's own ahead is less -/
def pth (wy : List (Int × List Int)) : Nat → Nat → List (List Int)
  | 0, _ => []
  | f + 1, i => if i = 0 then [] else match wy[i]? with | some e => pth wy f e.1.toNat ++ [e.2] | none => []
def WayOk (wy : List (Int × List Int)) : Prop := ∀ (j : Nat) e, wy[j]? = some e → 0 < j → 0 ≤ e.1 ∧ e.1 < (j : Int)
theorem pth_fuel {wy : List (Int × List Int)} (h : WayOk wy) : ∀ (f g i : Nat), i ≤ f → i ≤ g → pth wy f i = pth wy g i
  | 0, 0, _, _, _ => rfl
  | 0, g + 1, i, h1, _ => by
    obtain rfl : i = 0 := by omega
    show [] = if (0 : Nat) = 0 then [] else _
    rw [if_pos rfl]
  | f + 1, 0, i, _, h1 => by
    obtain rfl : i = 0 := by omega
    show (if (0 : Nat) = 0 then [] else _) = []
    rw [if_pos rfl]
  | f + 1, g + 1, i, h1, h2 => by
    show (if i = 0 then [] else _) = (if i = 0 then [] else _)
    by_cases hi : i = 0
    · rw [if_pos hi, if_pos hi]
    · rw [if_neg hi, if_neg hi]
      cases e : wy[i]? with
      | none => rfl
      | some x =>
        have := h i x e (by omega)
        dsimp only
        rw [pth_fuel h f g x.1.toNat (by omega) (by omega)]
def path (wy : List (Int × List Int)) (i : Nat) : List (List Int) := pth wy i i
theorem path_zero (wy : List (Int × List Int)) : path wy 0 = [] := rfl
theorem path_next {wy : List (Int × List Int)} (h : WayOk wy) {i : Nat} {e : Int × List Int} (hi : 0 < i) (he : wy[i]? = some e) : path wy i = path wy e.1.toNat ++ [e.2] := by
  obtain ⟨k, rfl⟩ : ∃ k, i = k + 1 := ⟨i - 1, by omega⟩
  have := h _ e he hi
  show (if k + 1 = 0 then [] else match wy[k + 1]? with | some e => pth wy k e.1.toNat ++ [e.2] | none => []) = _
  rw [if_neg (by omega), he]
  show pth wy k e.1.toNat ++ [e.2] = _
  rw [pth_fuel h k e.1.toNat e.1.toNat (by omega) (Nat.le_refl _)]
  rfl
theorem awRev {α β : Type} {F : α → β → Prop} : ∀ {l : List α} {l2 : List β}, Paired F l l2 → Paired F l.reverse l2.reverse
  | _, _, .nil => .nil
  | _, _, .cons r t => by
    rw [List.reverse_cons, List.reverse_cons]
    exact awSnoc r (awRev t)
def spBt (P : Program) (w : World) (C : Addr) : Sp := fun vs H Q _ => ∃ (p M N W : Addr) (ts : List WT) (wy : List (Int × List Int)) (i : Nat), vs = [.ref p, .int (i : Int)] ∧ WalkAt P w C H p M N W ts wy ∧ i < wy.length ∧ wy.length ≤ 1000000 ∧ WayOk wy ∧
  ∀ H' L bl, Same H H' → H L = none → H' L = some (.lst (bl.map V.ref)) → TAt H' bl (path wy i) → Q (.ref L) H'
set_option maxHeartbeats 1000000 in
theorem ok_bt {f C : Addr} {fd : FuncData} {k : Nat} (F : Fun K "bits_to" "Walk.bits_to" sWalk_bits_to f fd) (T : WCls K mg C) : FnOk P w K mg base CX0 (k + 1) f fd ["self", "number"] (spBt P w C) := by
  refine F.ok scWb (fun vs H Q E h => ?_) (fun cdv A outer s H vs Q E hr h => ?_)
  · obtain ⟨p, M, N, W, ts, wy, i, rfl, _⟩ := h
    rfl
  · obtain ⟨p, M, N, W, ts, wy, i, rfl, hw, hi, hl, wok, q⟩ := h
    refine ⟨_, pss_cons (ps_set (i := 2) scWb.nd rfl (.inl rfl) (pe_lst pa_nil))
      (pss_cons (ps_while PassesOwn.never (pt_cmpR op_gt (pv 1) pe_int (nomark _))
        (pss_cons (ps_asg (pe_ix ix_list (pe_fld (pv 0) rfl) (pv 1) (fun _ _ => rfl)) (pg_tup rfl (pgs_cons (pg_name (i := 1) scWb.nd rfl (.inl rfl)) (pgs_cons (pg_name (i := 3) scWb.nd rfl (.inl rfl)) pgs_nil))))
        (pss_one (ps_expr (pe_bm PySem.F.plainAttrs_list PySem.F.slot_list_append PySem.F.type_list_append mt_append (pv 2) (pa_cons (pv 3) pa_nil))))))
      (pss_one (ps_ret (pe_rev (pv 2) (pe_un un_neg pe_int))))), ?_⟩
    refine ⟨Nat.zero_le _, fun L hL => ?_⟩
    have sL := same_new (o := .lst []) hL
    refine ⟨fun n σ H3 => ∃ (y3 : Option V) (j : Nat) (acc : List (List Int)) (bl : List Addr), n = j ∧ σ = [some (.ref p), some (.int (j : Int)), some (.ref L), y3] ∧ j < wy.length ∧ path wy i = path wy j ++ acc.reverse ∧ acc.length + j ≤ i ∧ H3 L = some (.lst (bl.map V.ref)) ∧ TAt H3 bl acc ∧ Same H H3, ⟨i, none, i, [], [], rfl, rfl, hi, (by rw [List.reverse_nil, List.append_nil]), by simp, upd_same, .nil, sL⟩, fun n σ H3 hp => ?_⟩
    obtain ⟨y3, j, acc, bl, hnj, rfl, hj, hpth, hacc, eL, hbl, s3⟩ := hp
    refine ⟨.int (j : Int), rfl, _, 0, rfl, rfl, _, rfl, ite2 (fun e => ?_) (fun e => ?_)⟩
    · have hj0 : 0 < j := by
        have := of_decide_eq_true e
        omega
      have hw3 := hw.same s3
      obtain ⟨dxw, ob3⟩ := hw3.ob
      obtain ⟨ws, eW, hws⟩ := hw3.ways
      obtain ⟨x, hx, bb, hx2, hx3⟩ := awGet2 hws (List.getElem?_eq_getElem hj)
      have wk := wok j wy[j] (List.getElem?_eq_getElem hj) hj0
      have hat : atI (ws.map V.ref) (j : Int) = some (.ref x) := atI_nat (by rw [List.getElem?_map, hx]; rfl)
      refine ⟨fun σ' H' => ∃ m', m' < n ∧ ∃ (y3 : Option V) (j : Nat) (acc : List (List Int)) (bl : List Addr), m' = j ∧ σ' = [some (.ref p), some (.int (j : Int)), some (.ref L), y3] ∧ j < wy.length ∧ path wy i = path wy j ++ acc.reverse ∧ acc.length + j ≤ i ∧ H' L = some (.lst (bl.map V.ref)) ∧ TAt H' bl acc ∧ Same H H', fun σ' H' h => h, ?_⟩
      refine ⟨.ref p, rfl, p, C, dxw, _, _, rfl, ob3, T.cl, T.nW, wF_ways _ _ _, .int (j : Int), rfl, W, _, (j : Int), .ref x, rfl, rfl, .inl (.inl eW), hat, x, [.int wy[j].1, .ref bb], rfl, .inl (.inl hx2), rfl, .int wy[j].1, [.ref bb], rfl, .ref bb, [], rfl, rfl, ?_⟩
      have lb := awLen hbl
      refine ⟨.ref L, rfl, .inl ⟨rfl, _, .inl (.inl eL)⟩, .ref bb, rfl, L, _, _, rfl, rfl, eL, ?_, wy[j].1.toNat, by omega, some (.ref bb), wy[j].1.toNat, acc ++ [wy[j].2], bl ++ [bb], rfl, ?_, by omega, ?_, ?_, ?_, ?_, ?_⟩
      · rw [List.length_map, sizeLine_eq]
        omega
      · have : ((wy[j].1.toNat : Nat) : Int) = wy[j].1 := by omega
        rw [this]
        rfl
      · rw [hpth, path_next wok hj0 (List.getElem?_eq_getElem hj), List.reverse_append, List.append_assoc]
        rfl
      · rw [List.length_append]
        show acc.length + 1 + _ ≤ i
        omega
      · rw [upd_same, List.map_append]
        rfl
      · exact tat_stay (tups_put eL) (awSnoc (F := fun (f : Addr) (b : List Int) => H3 f = some (.tup (b.map V.int))) hx3 hbl)
      · intro b u z
        rw [upd_ne (ne_of_none z hL)]
        exact s3 _ _ z
    · have hj0 : j = 0 := by
        have : ¬ ((j : Int) > 0) := fun z => e (decide_eq_true z)
        omega
      subst hj0
      rw [path_zero, List.nil_append] at hpth
      refine ⟨.ref L, rfl, _, rfl, L, _, rfl, rfl, .inl (.inl eL), fun Z hZ => ?_⟩
      have sZ := same_new (o := .lst (bl.map V.ref).reverse) hZ
      refine q _ Z bl.reverse (s3.trans sZ) (s3.free hZ) ?_ ?_
      · rw [upd_same, List.map_reverse]
      · rw [hpth]
        exact tat_stay (Same.tups sZ) (awRev hbl)
section enumt
set_option maxHeartbeats 1000000 in
theorem meets_enum1 {v : Value} {o : Obj} {H : Heap → Prop} (B : Begins v o H) :
    Meets (Builtin.«enumerate.__new__» ⟨[.type "enumerate", v], []⟩) (fun _ R s => H s.heap ∧
      R (.ok (.ret (.ref (s.heap.push o).objs.size))) { s with heap := (s.heap.push o).push { cls := .type "enumerate", data := .fields #[.none, .bool false, .ref s.heap.objs.size, rawInt 0, .none, .none] } }) :=
  .of_wp fun prog w A R s h => by
    obtain ⟨hp, g, d, tk, os⟩ := s; obtain ⟨h1, h⟩ := h
    have hsub := sub_enumerate
    have q1 : ∀ {A' : Around} {E : Value → Shared → Prop} {Q : Value → Shared → Prop}, Q (.ref hp.objs.size) ⟨hp.push o, g, d, tk, os⟩ → wpAny (model prog w) A' (pyIter v) Q E ⟨hp, g, d, tk, os⟩ :=
      fun q => B.iter prog w _ _ ⟨hp, g, d, tk, os⟩ _ h1 q
    wp_walk using q1
    refine wpAny_stack_any fun st => wpAny_pure ?_
    split
    · rename_i c _ _ _ _ _
      cases (c == Value.type "enumerate")
      · wp_walk using q1
        exact ⟨_, rfl, h⟩
      · wp_walk using q1
        exact ⟨_, rfl, h⟩
    · wp_walk using q1
      exact ⟨_, rfl, h⟩
theorem enum1 {prog : Program} {w : World} {A : Around} {E : Value → Shared → Prop} {s : Shared} {v : Value} {o : Obj} {H : Heap → Prop} {Q : Value → Shared → Prop} (B : Begins v o H) (h1 : H s.heap)
    (h : ∀ h', IsEnum h' (s.heap.objs.size + 1) s.heap.objs.size 0 .none → h'.get? s.heap.objs.size = some o → h'.objs.size = s.heap.objs.size + 2 →
      (∀ b o, s.heap.get? b = some o → h'.get? b = some o) → Q (.ref (s.heap.objs.size + 1)) { s with heap := h' }) :
    wpAny (model prog w) A (call (.type "enumerate") [v]) Q E s := by
  refine callType_new F.called_enumerate (by decide) (F.typeCall_enumerate_1 _) (F.newCall_enumerate_1 _) (fun obj => F.args_object_init_2 obj _) F.entry_enumerate_new
    (meets_enum1 B) ⟨h1, ?_⟩
  have hz : (s.heap.push o).objs.size = s.heap.objs.size + 1 := Heap.size_push ..
  show _ ∧ _
  rw [hz]
  have he : IsEnum ((s.heap.push o).push { cls := .type "enumerate", data := .fields #[.none, .bool false, .ref s.heap.objs.size, rawInt 0, .none, .none] }) (s.heap.objs.size + 1) s.heap.objs.size 0 .none := by
    have := Heap.get?_push_size (s.heap.push o) (o := { cls := .type "enumerate", data := .fields #[.none, .bool false, .ref s.heap.objs.size, rawInt 0, .none, .none] }) rfl
    rw [hz] at this; exact this
  refine ⟨⟨_, he, rfl⟩, h _ he (Heap.get?_push_of_some _ (Heap.get?_push_size _ B.free)) (by rw [Heap.size_push, hz]) fun b o x => Heap.get?_push_of_some _ (Heap.get?_push_of_some _ x)⟩
def IteT (K : PySem.W.Frag) (a : Addr) : It :=
  ⟨fun i H => ∃ (xs : List V) (x : V), SqT K H a xs ∧ xs[i]? = some x, fun i H v H' => ∃ T x, v = .ref T ∧ H T = none ∧ H' = upd H T (.tup [.int (i : Nat), x]) ∧ ∀ xs, SqT K H a xs → xs[i]? = some x, fun i H => ∃ xs : List V, SqT K H a xs ∧ xs.length = i⟩
theorem turn_enumT {elts : List Expr} {kk : Nat} {tpos : Pos} (a e it : Addr) (na : a ≠ it) (ne : e ≠ a) :
    Turn P w K (.Tuple elts kk tpos) (IteT K a) [e, it] e (fun i h => (∃ old, IsEnum h e it ((i : Nat) : Int) old) ∧ h.IsTupleIter it a i ∧ e ≠ it) where
  mem := by simp
  obj := fun i h st b hb => by
    obtain ⟨⟨old, he⟩, ⟨o, ho, hc, hd⟩, _⟩ := st
    have e' : b = e ∨ b = it := by simpa using hb
    rcases e' with z | z
    · rw [z]; exact ⟨_, he, fun v q => nomatch q⟩
    · rw [z]; exact ⟨o, ho, fun v q => by rw [hd] at q; cases q⟩
  keep := fun i h h' st k => let ⟨⟨old, he⟩, hi, hne⟩ := st; ⟨⟨old, k e (by simp) _ he⟩, hi.at fun o q => k it (by simp) o q, hne⟩
  item := by
    intro X hP hw hK hc i pins s σ H E I hf st hg
    subst hP hw hK
    obtain ⟨⟨old, he⟩, hit, hne⟩ := st
    obtain ⟨xs, x, hq, hx⟩ := hg
    obtain ⟨its, rv, p, hz⟩ := I.tuple hq
    obtain ⟨u, hu, ru⟩ := rv.get hx
    have hel : e < s.heap.objs.size := Heap.lt_size he
    have hil : it < s.heap.objs.size := by obtain ⟨_, q, _⟩ := hit; exact Heap.lt_size q
    have hh : X.A.in1.handled = none := I.ok.hd hc
    have l1 : i < its.toArray.size := by
      have := (List.getElem?_eq_some_iff.mp hu).1
      simpa using this
    refine wpAny_pyNext_enum_itemD (Draws.tuple hh it a na its.toArray) he ⟨hit, p⟩ l1 hne (by simp [hne, ne]) fun v h' tk g ho hit' hT hsz hk => ?_
    have ev : v = u := by
      have g1' : its.toArray[i]? = some v := g
      have e : its[i]? = some v := by simpa using g1'
      rw [hu] at e
      exact (Option.some.inj e).symm
    subst ev
    refine ⟨_, rfl, wpAny_letOwnedTupleGo_enum (s := { s with heap := h', toks := tk + 1 }) ho fun h'' he' sb => ?_⟩
    have hT2 : h''.get? s.heap.objs.size = some { cls := .type "tuple", data := .seq #[.int i tk, v] } := (sb.2 _ (Nat.ne_of_gt hel)).trans hT
    have new : ObjOk X.prog X.w (upd H s.heap.objs.size (.tup [.int (i : Nat), x])) h'' s.heap.objs.size (.tup [.int (i : Nat), x]) :=
      ⟨by show 2 ≤ sizeLine; decide, [.int i tk, v], .cons ⟨_, rfl⟩ (.cons ru .nil), ⟨_, hT2, rfl, _, rfl⟩⟩
    have I1 : Inv X pins σ (upd H s.heap.objs.size (.tup [.int (i : Nat), x])) { s with heap := h'', toks := tk + 1 } :=
      I.turnedNew (ch := [e, it]) (fun b ob hb q => (sb.2 b (fun z => hb (by simp [z]))).trans (hk b ob (fun z => hb (by simp [z])) (fun z => hb (by simp [z])) q)) hf (Nat.le_refl _) new
    refine ⟨.ref s.heap.objs.size, _, I1, rfl, ⟨_, x, rfl, I.hok.fresh (Nat.le_refl _), rfl, fun ys hy => by rw [I.tuple_inj hy hq]; exact hx⟩, ⟨⟨v, ?_⟩, hit'.1.at fun o q => (sb.2 it (Ne.symm hne)).trans q, hne⟩, fun b hb => ?_⟩
    · have e1 : ((i + 1 : Nat) : Int) = (i : Int) + 1 := by omega
      rw [e1]; exact he'
    · have hb' : b < s.heap.objs.size := by
        have e' : b = e ∨ b = it := by simpa using hb
        rcases e' with z | z
        · rw [z]; exact hel
        · rw [z]; exact hil
      rw [upd_ne (Nat.ne_of_lt hb')]
      exact (hf b hb).1
  done := by
    intro X hP hw hK hc i pins s σ H E I hf st hg
    subst hP hw hK
    obtain ⟨⟨old, he⟩, hit, hne⟩ := st
    obtain ⟨xs, hq, hx⟩ := hg
    obtain ⟨its, rv, p, hz⟩ := I.tuple hq
    obtain ⟨f0, f1, f2, f3, f4, f5⟩ := hf it (by simp)
    have hl := rv.length
    have hh : X.A.in1.handled = none := I.ok.hd hc
    have ei : i = its.toArray.size := by rw [List.size_toArray]; omega
    exact wpAny_pyNext_enum_endD (Draws.tuple hh it a na its.toArray) he ⟨by rw [← ei]; exact hit, p⟩ fun h' eb => ⟨rfl, I.turned (t' := s.toks) (fun b o hb q => eb b o hb q) f0 f1 f3 f4 f5⟩
  self := fun A i s Q E st h => let ⟨⟨_, he⟩, _⟩ := st; wpAny_pyIter_enum he h
def iEnumT (K : PySem.W.Frag) (ta : TA) : TI := fun σ H R => ta σ H fun vs H1 => ∃ a xs, vs = [.ref a] ∧ SqT K H1 a xs ∧ R (IteT K a) H1
theorem pi_enumT {X : Cx} {e : Expr} {ta : TA} {p pos tpos : Pos} {elts : List Expr} {kk : Nat} (hg : Gl X "enumerate") (hm : X.mg "enumerate" = none) (ha : PA X [e] ta) (hs : starEach [e] X.env = [(false, eval e X.env)] := by rfl) :
    PI X (.Tuple elts kk tpos) (.Call (.Name "enumerate" p) [e] [] pos) (iEnumT X.K ta) := by
  refine ⟨fun pins s σ H R I h => ?_⟩
  refine Call_ (ld_blt I hg hm boot_enumerate (PyProof.Rows.callWith_type1 (thn (ha.run pos pins s σ H _ I h) fun us s1 ⟨vs, H1, I1, r1, q1⟩ => ?_) hs rfl))
  obtain ⟨a, xs, ex, hq, q⟩ := q1
  subst ex
  cases r1 with
  | cons r rr =>
    cases rr
    cases r
    obtain ⟨its, rv, p', hz⟩ := I1.tuple hq
    have lb : a < s1.heap.objs.size := by
      obtain ⟨o2, e2, _⟩ := id p'
      exact Heap.lt_size e2
    refine enum1 (begins_tuple a its.toArray) p' fun h' he hit hsz hk => wpAny_pyIter_enum he ?_
    have I2 : Inv X pins σ H1 { s1 with heap := h' } := I1.kept (t' := s1.toks) hk
    refine ⟨s1.heap.objs.size + 1, [s1.heap.objs.size + 1, s1.heap.objs.size], _, _, H1, rfl, I2, turn_enumT a (s1.heap.objs.size + 1) s1.heap.objs.size (Nat.ne_of_lt lb) (Nat.ne_of_gt (Nat.lt_succ_of_lt lb)), ⟨⟨.none, he⟩, ⟨_, hit, rfl, rfl⟩, Nat.succ_ne_self _⟩, fun b hb => ?_, q⟩
    have e' : b = s1.heap.objs.size + 1 ∨ b = s1.heap.objs.size := by simpa using hb
    have hle : s1.heap.objs.size ≤ b := by
      rcases e' with z | z
      · rw [z]; exact Nat.le_succ _
      · rw [z]; exact Nat.le_refl _
    exact I1.fpOk hle (I1.hok.fresh hle)
theorem walk_enumT {a : Addr} {xs : List V} : Walk (IteT K a) xs.length (fun H => SqT K H a xs) (YPair (fun i => some (.int (i : Nat))) (fun i => xs[i]?)) where
  goes := fun i H hi q => ⟨xs, xs[i], q, List.getElem?_eq_getElem hi⟩
  stops := fun H q => ⟨xs, q, rfl⟩
  yields := fun i H v H2 hi q y => by
    obtain ⟨T, x, h1, h2, h3, h4⟩ := y
    exact ⟨T, .int (i : Nat), x, h1, h2, h3, rfl, h4 xs q⟩
end enumt
def colW : List (List Int) → Nat → Int
  | [], _ => 0
  | c :: cs, j => c.getD j 0 + 2 * colW cs j
theorem colW_snoc (c : List Int) (j : Nat) : ∀ cs : List (List Int), colW (cs ++ [c]) j = colW cs j + c.getD j 0 * 2 ^ cs.length
  | [] => by
    show c.getD j 0 + 2 * 0 = 0 + c.getD j 0 * 1
    omega
  | d :: cs => by
    show d.getD j 0 + 2 * colW (cs ++ [c]) j = d.getD j 0 + 2 * colW cs j + c.getD j 0 * 2 ^ (cs.length + 1)
    have e : c.getD j 0 * 2 ^ (cs.length + 1) = 2 * (c.getD j 0 * 2 ^ cs.length) := by rw [Int.pow_succ, ← Int.mul_assoc, Int.mul_comm]
    rw [colW_snoc c j cs, e]
    omega
/-- the words whose bits are told by columns -/
def wofL (m : Nat) (cs : List (List Int)) : List Int := (List.range m).map (colW cs)
theorem wofL_len (m : Nat) (cs : List (List Int)) : (wofL m cs).length = m := by
  unfold wofL
  rw [List.length_map, List.length_range]
/-- the first so many words have taken in a further column -/
def wofP (m : Nat) (cs : List (List Int)) (c : List Int) (k : Nat) : List Int := (List.range m).map fun j => if j < k then colW (cs ++ [c]) j else colW cs j
theorem wofP_zero (m : Nat) (cs : List (List Int)) (c : List Int) : wofP m cs c 0 = wofL m cs := by
  unfold wofP wofL
  exact List.map_congr_left fun j _ => if_neg (Nat.not_lt_zero _)
theorem wofP_all (m : Nat) (cs : List (List Int)) (c : List Int) : wofP m cs c m = wofL m (cs ++ [c]) := by
  unfold wofP wofL
  exact List.map_congr_left fun j hj => if_pos (List.mem_range.mp hj)
theorem wofP_next {m : Nat} {cs : List (List Int)} {c : List Int} {k : Nat} (hk : k < m) : wofP m cs c (k + 1) = (wofP m cs c k).set k (colW cs k + c.getD k 0 * 2 ^ cs.length) := by
  have l : ∀ n, (wofP m cs c n).length = m := fun n => by
    unfold wofP
    rw [List.length_map, List.length_range]
  refine List.ext_getElem? fun i => ?_
  by_cases hi : i < m
  · by_cases e : i = k
    · subst e
      rw [List.getElem?_set_self (by rw [l]; exact hi)]
      unfold wofP
      rw [List.getElem?_map, List.getElem?_range hi]
      show some (if i < i + 1 then _ else _) = _
      rw [if_pos (by omega), colW_snoc]
    · rw [List.getElem?_set_ne (by omega)]
      unfold wofP
      rw [List.getElem?_map, List.getElem?_map, List.getElem?_range hi]
      show some (if i < k + 1 then _ else _) = some (if i < k then _ else _)
      by_cases h2 : i < k
      · rw [if_pos (by omega), if_pos h2]
      · rw [if_neg (by omega), if_neg h2]
  · rw [List.getElem?_eq_none (by rw [l]; omega), List.getElem?_eq_none (by rw [List.length_set, l]; omega)]
def rIxN (K : PySem.W.Frag) : V → V → Hp → VK → Prop := fun x y H Q => ∃ p xs i v, x = .ref p ∧ y = .int i ∧ 0 ≤ i ∧ SqL K H p xs ∧ atI xs i = some v ∧ Q v H
theorem get_listN {X : Cx} : PGet X (rIxN X.K) := by
  intro pins s σ H o i ov iv Q I ro ri h
  obtain ⟨p, xs, i, z, rfl, rfl, h0, hq, he, q⟩ := h
  cases ro
  obtain ⟨t, rfl⟩ := ri
  obtain ⟨its, r, pl, hz⟩ := I.list hq
  obtain ⟨j, h1, h2, h3, h4, h5⟩ := atI_get he
  obtain ⟨w, ew, rw'⟩ := r.get h2
  have hl := r.length
  have hn := line63
  have fin : EP X pins σ Q w s := ⟨z, H, I, rw', q⟩
  have hj : i.toNat = j := by
    rw [seqIndex_of h0 h5] at h1
    exact Option.some.inj h1
  exact wpAny_getItem_list pl.isList h0 (by omega) (by rw [hj]; simpa using ew) fin
def spWf : Sp := fun vs H Q _ => ∃ (m : Nat) (L : Addr) (bl : List Addr) (cols : List (List Int)), vs = [.int (m : Int), .ref L] ∧ m ≤ 3 ∧ H L = some (.lst (bl.map V.ref)) ∧ TAt H bl cols ∧ cols.length ≤ 1000000 ∧ (∀ c ∈ cols, c.length = m ∧ ∀ x ∈ c, Bit x) ∧
  ∀ H' p, Same H H' → H p = none → H' p = some (.lst ((wofL m cols).map V.int)) → Q (.ref p) H'
set_option maxHeartbeats 1000000 in
theorem ok_wf {f : Addr} {fd : FuncData} {k : Nat} (F : Fun K "words_of" "words_of" s_words_of f fd) (me : mg "enumerate" = none) : FnOk P w K mg base CX0 (k + 1) f fd ["many", "columns"] spWf := by
  refine F.ok sc_words_of (fun vs H Q E h => ?_) (fun cdv A outer s H vs Q E hr h => ?_)
  · obtain ⟨m, L, bl, cols, rfl, _⟩ := h
    rfl
  · obtain ⟨m, L, bl, cols, rfl, m3, eL, hbl, hcl, hco, q⟩ := h
    refine ⟨_, pss_cons (ps_set (i := 2) sc_words_of.nd rfl (.inl rfl) (pe_op op_rep (pe_lst (pa_cons pe_int pa_nil)) (pv 0)))
      (pss_cons (ps_for PassesOwn.never rfl (pi_enum (by rfl) me (pa_cons (pv 1) pa_nil)) (pg_tup rfl (pgs_cons (pg_name (i := 3) sc_words_of.nd rfl (.inl rfl)) (pgs_cons (pg_name (i := 4) sc_words_of.nd rfl (.inl rfl)) pgs_nil)))
        (pss_one (ps_for PassesOwn.never rfl (pi_enumT (by rfl) me (pa_cons (pv 4) pa_nil)) (pg_tup rfl (pgs_cons (pg_name (i := 5) sc_words_of.nd rfl (.inl rfl)) (pgs_cons (pg_name (i := 6) sc_words_of.nd rfl (.inl rfl)) pgs_nil)))
          (pss_one (ps_augS (pv 2) (pv 5) get_listN (pe_op op_shl (pv 6) (pv 3)) ip_add set_list)))))
      (pss_one (ps_ret (pv 2)))), ?_⟩
    refine ⟨(by show 1 ≤ sizeLine; decide), fun Z hZ => ?_⟩
    have sZ := same_new (o := .lst [.int 0]) hZ
    refine ⟨.int (m : Int), rfl, Z, (m : Int), _, rfl, rfl, upd_same, by omega, by omega, ?_, fun Wl hWl => ?_⟩
    · show 1 * (m : Int).toNat ≤ sizeLine
      rw [sizeLine_eq]
      omega
    have e0 : (List.replicate (m : Int).toNat [V.int 0]).flatten = (wofL m []).map V.int := by
      rw [Int.toNat_natCast]
      have hm : m = 0 ∨ m = 1 ∨ m = 2 ∨ m = 3 := by omega
      rcases hm with rfl | rfl | rfl | rfl <;> rfl
    rw [e0]
    have sW := sZ.trans (same_new (o := .lst ((wofL m []).map V.int)) hWl)
    have nW : H Wl = none := sZ.free hWl
    have bll := awLen hbl
    have nLW : L ≠ Wl := ne_of_none eL nW
    refine ⟨.ref L, rfl, L, _, rfl, .inl (.inl (sW _ _ eL)), for_it (walk_enum (K := K) (a := L) (xs := bl.map V.ref)) (fun t σ H3 => ∃ y3 y4 y5 y6, σ = [some (.int (m : Int)), some (.ref L), some (.ref Wl), y3, y4, y5, y6] ∧ H3 Wl = some (.lst ((wofL m (cols.take t)).map V.int)) ∧ Same H H3)
      ⟨none, none, none, none, rfl, upd_same, sW⟩ (fun t σ H3 _ hp => ?_) (fun t x σ H3 H4 ht hp hy => ?_) (fun σ H3 hp => ?_)⟩
    · obtain ⟨_, _, _, _, _, _, s3⟩ := hp
      exact .inl (.inl (s3 _ _ eL))
    · obtain ⟨y3, y4, y5, y6, rfl, eW, s3⟩ := hp
      obtain ⟨U, x1, x2, rfl, hU, rfl, g1, g2⟩ := hy
      obtain rfl : V.int (t : Nat) = x1 := Option.some.inj g1
      have ht2 : t < bl.length := by rwa [List.length_map] at ht
      have hx2 : x2 = .ref bl[t] := by
        have g2' : (bl.map V.ref)[t]? = some x2 := g2
        rw [List.getElem?_map, List.getElem?_eq_getElem ht2] at g2'
        exact (Option.some.inj g2').symm
      subst hx2
      obtain ⟨c, hc1, hc2⟩ := awGet hbl (List.getElem?_eq_getElem ht2)
      have hc2' : H bl[t] = some (.tup (c.map V.int)) := hc2
      obtain ⟨cl, cb⟩ := hco c (List.mem_of_getElem? hc1)
      have tl : (cols.take t).length = t := by rw [List.length_take]; omega
      have sU := same_new (o := .tup [.int (t : Nat), .ref bl[t]]) hU
      have eB := sU _ _ (s3 _ _ hc2')
      have eW4 := sU _ _ eW
      obtain ⟨r, hr'⟩ : ∃ r, r = bl[t] := ⟨_, rfl⟩
      have eU : upd H3 U (.tup [.int (t : Nat), .ref r]) U = some (.tup [.int (t : Nat), .ref r]) := upd_same
      rw [← hr'] at eB eW4 sU ⊢
      obtain ⟨H4, hH4⟩ : ∃ H4, H4 = upd H3 U (.tup [.int (t : Nat), .ref r]) := ⟨_, rfl⟩
      rw [← hH4] at eB eW4 sU eU ⊢
      refine ⟨U, [.int (t : Nat), .ref r], rfl, .inl (.inl eU), rfl, .int (t : Nat), [.ref r], rfl, .ref r, [], rfl, rfl, ?_⟩
      refine ⟨.ref r, rfl, r, _, rfl, SqT.of eB, for_it (walk_enumT (K := K) (a := r) (xs := c.map V.int)) (fun j σ H5 => ∃ y5 y6, σ = [some (.int (m : Int)), some (.ref L), some (.ref Wl), some (.int (t : Nat)), some (.ref r), y5, y6] ∧ H5 Wl = some (.lst ((wofP m (cols.take t) c j).map V.int)) ∧ ∀ b u, b ≠ Wl → H4 b = some u → H5 b = some u)
        ⟨y5, y6, rfl, by rw [wofP_zero]; exact eW4, fun _ _ _ e => e⟩ (fun j σ H5 _ hp => ?_) (fun j x σ H5 H6 hj hp hy => ?_) (fun σ H5 hp => ?_)⟩
      · obtain ⟨_, _, _, _, st⟩ := hp
        exact SqT.of (st _ _ (ne_of eB eW4 (fun z => nomatch z)) eB)
      · obtain ⟨y5, y6, rfl, eW5, st⟩ := hp
        obtain ⟨V1, x1, x2, rfl, hV, rfl, g1, g2⟩ := hy
        obtain rfl : V.int (j : Nat) = x1 := Option.some.inj g1
        have hj2 : j < c.length := by rwa [List.length_map] at hj
        have hjm : j < m := by omega
        have hx2 : x2 = .int c[j] := by
          have g2' : (c.map V.int)[j]? = some x2 := g2
          rw [List.getElem?_map, List.getElem?_eq_getElem hj2] at g2'
          exact (Option.some.inj g2').symm
        subst hx2
        have cj : c.getD j 0 = c[j] := by rw [List.getD_eq_getElem?_getD, List.getElem?_eq_getElem hj2]; rfl
        have bj := cb _ (List.getElem_mem hj2)
        have sV := same_new (o := .tup [.int (j : Nat), .int c[j]]) hV
        have eW6 := sV _ _ eW5
        have wl : (wofP m (cols.take t) c j).length = m := by
          unfold wofP
          rw [List.length_map, List.length_range]
        have wj : (wofP m (cols.take t) c j).getD j 0 = colW (cols.take t) j := by
          unfold wofP
          rw [List.getD_eq_getElem?_getD, List.getElem?_map, List.getElem?_range hjm]
          show (if j < j then _ else _) = _
          rw [if_neg (Nat.lt_irrefl _)]
        have hat := atI_ints (l := wofP m (cols.take t) c j) (o := (j : Int)) (by omega) (by omega)
        rw [Int.toNat_natCast, wj] at hat
        refine ⟨V1, [.int (j : Nat), .int c[j]], rfl, .inl (.inl upd_same), rfl, .int (j : Nat), [.int c[j]], rfl, .int c[j], [], rfl, rfl, ?_⟩
        refine ⟨.ref Wl, rfl, .int (j : Nat), rfl, Wl, _, (j : Int), _, rfl, rfl, by omega, .inl (.inl eW6), hat, .int c[j], rfl, .int (t : Nat), rfl, _, _, rfl, rfl, ⟨by omega, by omega, ?_⟩, _, _, rfl, rfl, Wl, _, (j : Int), j, rfl, rfl, eW6, ?_, some (.int (j : Nat)), some (.int c[j]), rfl, ?_, fun b u nb e => ?_⟩
        · rcases bj with e | e <;> rw [e] <;> decide
        · unfold ixN
          rw [List.length_map, wl, if_pos (by omega), if_pos (by omega)]
          rfl
        · rw [upd_same, wofP_next hjm, tl, cj, List.map_set]
          rfl
        · rw [upd_ne nb]
          exact sV _ _ (st b u nb e)
      · obtain ⟨y5', y6', rfl, eW5, st⟩ := hp
        rw [List.length_map, cl, wofP_all] at eW5
        refine ⟨_, _, _, _, rfl, ?_, fun b u e => st _ _ (ne_of_none e nW) (sU _ _ (s3 _ _ e))⟩
        rw [List.take_add_one, hc1]
        exact eW5
    · obtain ⟨y3, y4, y5, y6, rfl, eW, s3⟩ := hp
      rw [List.length_map, bll, List.take_length] at eW
      exact ⟨.ref Wl, rfl, q _ Wl s3 nW eW⟩
theorem colW_range {j : Nat} : ∀ {cs : List (List Int)}, (∀ c ∈ cs, Bit (c.getD j 0)) → 0 ≤ colW cs j ∧ colW cs j < 2 ^ cs.length
  | [], _ => ⟨Int.le_refl _, by show (0 : Int) < 1; decide⟩
  | c :: cs, h => by
    obtain ⟨a, b⟩ := colW_range (cs := cs) fun x hx => h x (List.mem_cons_of_mem _ hx)
    have hb := h c List.mem_cons_self
    have e : (2 : Int) ^ (c :: cs).length = 2 * 2 ^ cs.length := by rw [List.length_cons, Int.pow_succ, Int.mul_comm]
    rw [e]
    show 0 ≤ c.getD j 0 + 2 * colW cs j ∧ c.getD j 0 + 2 * colW cs j < 2 * 2 ^ cs.length
    rcases hb with z | z <;> rw [z] <;> omega
theorem colW_bit {j : Nat} : ∀ {cs : List (List Int)} {t : Nat} {c : List Int}, (∀ c ∈ cs, Bit (c.getD j 0)) → cs[t]? = some c → bitA t (colW cs j) = c.getD j 0
  | [], _, _, _, e => by simp at e
  | c :: cs, 0, d, h, e => by
    obtain rfl : c = d := Option.some.inj e
    have hb := h c List.mem_cons_self
    show (c.getD j 0 + 2 * colW cs j) / 1 % 2 = c.getD j 0
    rcases hb with z | z <;> rw [z] <;> omega
  | c :: cs, t + 1, d, h, e => by
    have ih := colW_bit (cs := cs) (t := t) (c := d) (j := j) (fun x hx => h x (List.mem_cons_of_mem _ hx)) (by simpa using e)
    have hb := h c List.mem_cons_self
    rw [← ih]
    unfold bitA
    show (c.getD j 0 + 2 * colW cs j) / 2 ^ (t + 1) % 2 = colW cs j / 2 ^ t % 2
    have e2 : (2 : Int) ^ (t + 1) = 2 * 2 ^ t := by rw [Int.pow_succ, Int.mul_comm]
    rw [e2, ← Int.ediv_ediv_of_nonneg (by decide)]
    have e3 : (c.getD j 0 + 2 * colW cs j) / 2 = colW cs j := by rcases hb with z | z <;> rw [z] <;> omega
    rw [e3]
theorem wofL_bits {m t : Nat} {cs : List (List Int)} {c : List Int} (h : ∀ c ∈ cs, c.length = m ∧ ∀ x ∈ c, Bit x) (e : cs[t]? = some c) : (wofL m cs).map (bitA t) = c := by
  have bt : ∀ (j : Nat) c, c ∈ cs → Bit (c.getD j 0) := fun j c hc => by
    rw [List.getD_eq_getElem?_getD]
    cases e : c[j]? with
    | none => exact bit0
    | some y => exact (h c hc).2 y (List.mem_of_getElem? e)
  obtain ⟨cl, _⟩ := h c (List.mem_of_getElem? e)
  refine List.ext_getElem? fun i => ?_
  unfold wofL
  rw [List.map_map, List.getElem?_map]
  by_cases hi : i < m
  · rw [List.getElem?_range hi]
    show some (bitA t (colW cs i)) = c[i]?
    rw [colW_bit (fun c hc => bt i c hc) e, List.getElem?_eq_getElem (by omega), List.getD_eq_getElem?_getD, List.getElem?_eq_getElem (by omega)]
    rfl
  · rw [List.getElem?_eq_none (by rw [List.length_range]; omega), List.getElem?_eq_none (by omega)]
    rfl
theorem wofL_range {m : Nat} {cs : List (List Int)} (h : ∀ c ∈ cs, c.length = m ∧ ∀ x ∈ c, Bit x) : ∀ x ∈ wofL m cs, 0 ≤ x ∧ x < 2 ^ cs.length := by
  intro x hx
  obtain ⟨j, _, rfl⟩ := List.mem_map.mp hx
  refine colW_range fun c hc => ?_
  rw [List.getD_eq_getElem?_getD]
  cases e : c[j]? with
  | none => exact bit0
  | some y => exact (h c hc).2 y (List.mem_of_getElem? e)
/-- the carry behind some columns -/
def runC (ds : List Deed) : List Int → List (List Int) → List Int
  | c, [] => c
  | c, b :: bs => runC ds (nc ds c b) bs
theorem runC_snoc (ds : List Deed) (b : List Int) : ∀ (bs : List (List Int)) (c : List Int), runC ds c (bs ++ [b]) = nc ds (runC ds c bs) b
  | [], _ => rfl
  | x :: bs, c => runC_snoc ds b bs (nc ds c x)
theorem crry_run {m : Nat} {ds : List Deed} {cs : List (List Int)} (h : ∀ c ∈ cs, c.length = m ∧ ∀ x ∈ c, Bit x) : ∀ t, t ≤ cs.length → crry ds (wofL m cs) t = runC ds (ds.map fcD) (cs.take t)
  | 0, _ => rfl
  | t + 1, ht => by
    have e : cs[t]? = some cs[t] := List.getElem?_eq_getElem (by omega)
    rw [List.take_add_one, e]
    show nxt ds (crry ds (wofL m cs) t) (bts ds (crry ds (wofL m cs) t) ((wofL m cs).map (bitA t))) = runC ds (ds.map fcD) (cs.take t ++ [cs[t]])
    rw [runC_snoc, crry_run h t (by omega), wofL_bits h e]
    rfl
abbrev PC := List Int × List Int
def dep (wy : List (Int × List Int)) (i : Nat) : Nat := (path wy i).length
/-- the pair behind a pair -/
def nx2 (ds1 ds2 : List Deed) (q : PC) (bs : List Int) : PC := (nc ds1 q.1 bs, nc ds2 q.2 bs)
structure Bfs (m : Nat) (ds1 : List Deed) (o1 : Int) (ds2 : List Deed) (o2 : Int) (ps : List PC) (wy : List (Int × List Int)) (cu : Nat) : Prop where
  first : ps[0]? = some (ds1.map fcD, ds2.map fcD)
  ways : WayOk wy
  len : wy.length = ps.length
  link : ∀ (j : Nat) e, wy[j]? = some e → 0 < j → e.2 ∈ allB m ∧ ∃ q, ps[e.1.toNat]? = some q ∧ ps[j]? = some (nx2 ds1 ds2 q e.2)
  done : ∀ (i : Nat) q, i < cu → ps[i]? = some q → ∀ bs ∈ allB m, ob ds1 o1 q.1 bs = ob ds2 o2 q.2 bs ∧ ∃ i' : Nat, ps[i']? = some (nx2 ds1 ds2 q bs) ∧ dep wy i' ≤ dep wy i + 1
  mono : ∀ i j : Nat, i ≤ j → j < ps.length → dep wy i ≤ dep wy j
theorem bfs_path {m : Nat} {ds1 ds2 : List Deed} {o1 o2 : Int} {ps : List PC} {wy : List (Int × List Int)} {cu : Nat} (h : Bfs m ds1 o1 ds2 o2 ps wy cu) : ∀ (n i : Nat) q, i ≤ n → ps[i]? = some q → (∀ b ∈ path wy i, b ∈ allB m) ∧ q = (runC ds1 (ds1.map fcD) (path wy i), runC ds2 (ds2.map fcD) (path wy i))
  | n, 0, q, _, hq => by
    rw [h.first] at hq
    obtain rfl := Option.some.inj hq
    exact ⟨(fun _ z => nomatch z), rfl⟩
  | 0, i + 1, q, hi, _ => by omega
  | n + 1, i + 1, q, hi, hq => by
    have hl : i + 1 < wy.length := by
      rw [h.len]
      exact (List.getElem?_eq_some_iff.mp hq).1
    have he : wy[i + 1]? = some wy[i + 1] := List.getElem?_eq_getElem hl
    obtain ⟨hb, q0, hq0, hq1⟩ := h.link _ _ he (by omega)
    have wk := h.ways _ _ he (by omega)
    obtain ⟨ih1, ih2⟩ := bfs_path h n wy[i + 1].1.toNat q0 (by omega) hq0
    rw [hq] at hq1
    obtain rfl := Option.some.inj hq1
    rw [path_next h.ways (by omega) he]
    refine ⟨fun b hb' => ?_, ?_⟩
    · rcases List.mem_append.mp hb' with z | z
      · exact ih1 b z
      · rw [List.mem_singleton.mp z]
        exact hb
    · rw [runC_snoc, runC_snoc, ih2]
      rfl
/-- whoever is reached in fewer steps than the current one has been looked at -/
theorem bfs_below {m : Nat} {ds1 ds2 : List Deed} {o1 o2 : Int} {ps : List PC} {wy : List (Int × List Int)} {cu : Nat} (h : Bfs m ds1 o1 ds2 o2 ps wy cu) (hc : cu < ps.length) (cols : Nat → List Int) (hcols : ∀ t, cols t ∈ allB m) {pc : Nat → PC} (h0 : pc 0 = (ds1.map fcD, ds2.map fcD)) (hs : ∀ t, pc (t + 1) = nx2 ds1 ds2 (pc t) (cols t)) :
    ∀ t, t ≤ dep wy cu → ∃ i : Nat, ps[i]? = some (pc t) ∧ dep wy i ≤ t
  | 0, _ => ⟨0, by rw [h0]; exact h.first, Nat.le_refl _⟩
  | t + 1, ht => by
    obtain ⟨i, hi, hd⟩ := bfs_below h hc cols hcols h0 hs t (by omega)
    have lt : i < cu := by
      by_cases hh : i < cu
      · exact hh
      · have := h.mono cu i (by omega) (List.getElem?_eq_some_iff.mp hi).1
        omega
    obtain ⟨_, i', hi', hd'⟩ := h.done i _ lt hi (cols t) (hcols t)
    exact ⟨i', by rw [hs]; exact hi', by omega⟩
theorem bfs_agree {m : Nat} {ds1 ds2 : List Deed} {o1 o2 : Int} {ps : List PC} {wy : List (Int × List Int)} {cu : Nat} (h : Bfs m ds1 o1 ds2 o2 ps wy cu) (hc : cu < ps.length) (cols : Nat → List Int) (hcols : ∀ t, cols t ∈ allB m) {pc : Nat → PC} (h0 : pc 0 = (ds1.map fcD, ds2.map fcD)) (hs : ∀ t, pc (t + 1) = nx2 ds1 ds2 (pc t) (cols t)) {t : Nat} (ht : t < dep wy cu) :
    ob ds1 o1 (pc t).1 (cols t) = ob ds2 o2 (pc t).2 (cols t) := by
  obtain ⟨i, hi, hd⟩ := bfs_below h hc cols hcols h0 hs t (by omega)
  have lt : i < cu := by
    by_cases hh : i < cu
    · exact hh
    · have := h.mono cu i (by omega) (List.getElem?_eq_some_iff.mp hi).1
      omega
  exact (h.done i _ lt hi (cols t) (hcols t)).1
theorem ob_bit {m n t : Nat} {ds : List Deed} {o : Int} {xs : List Int} (ok : RowOk m ds o) (hm : xs.length = m) (hx : ∀ x ∈ xs, 0 ≤ x ∧ x < 2 ^ n) (ht : t < n) : ob ds o (crry ds xs t) (xs.map (bitA t)) = bitA t ((vals (2 ^ n) ds xs).getD o.toNat 0) := by
  have vl := vals_len (size := 2 ^ n) ds xs
  have o0 := ok.o0
  have o1 := ok.o1
  have m1 := ok.m1
  have ol : o.toNat < (vals (2 ^ n) ds xs).length := by
    rw [vl, hm]
    omega
  unfold ob
  rw [crry_bits ok.deeds hm (by omega) hx ht, List.getD_eq_getElem?_getD, List.getD_eq_getElem?_getD, List.getElem?_map, List.getElem?_eq_getElem ol]
  rfl
theorem wr_range {m n : Nat} {ds : List Deed} {o : Int} {xs : List Int} (ok : RowOk m ds o) (hm : xs.length = m) (hx : ∀ x ∈ xs, 0 ≤ x ∧ x < 2 ^ n) : (vals (2 ^ n) ds xs).getD o.toNat 0 % 2 ^ n = (vals (2 ^ n) ds xs).getD o.toNat 0 := by
  have vl := vals_len (size := 2 ^ n) ds xs
  have o0 := ok.o0
  have o1 := ok.o1
  have ol : o.toNat < (vals (2 ^ n) ds xs).length := by
    rw [vl, hm]
    omega
  rw [List.getD_eq_getElem?_getD, List.getElem?_eq_getElem ol]
  obtain ⟨a, b⟩ := vals_range (pw_pos n) ds xs hx _ (List.getElem_mem ol)
  exact Int.emod_eq_of_lt a b
theorem cols_in {m : Nat} {xs : List Int} (hm : xs.length = m) (t : Nat) : xs.map (bitA t) ∈ allB m := allB_all m _ (by rw [List.length_map, hm]) fun x hx => by
  obtain ⟨y, _, rfl⟩ := List.mem_map.mp hx
  exact bitA_bit t y
/-- at no lesser width do the rows part -/
theorem bfs_least {m : Nat} {ds1 ds2 : List Deed} {o1 o2 : Int} {ps : List PC} {wy : List (Int × List Int)} {cu : Nat} (h : Bfs m ds1 o1 ds2 o2 ps wy cu) (hc : cu < ps.length) (ok1 : RowOk m ds1 o1) (ok2 : RowOk m ds2 o2) {n : Nat} (hn : n ≤ dep wy cu) {xs : List Int} (hm : xs.length = m) (hx : ∀ x ∈ xs, 0 ≤ x ∧ x < 2 ^ n) :
    (vals (2 ^ n) ds1 xs).getD o1.toNat 0 = (vals (2 ^ n) ds2 xs).getD o2.toNat 0 := by
  have e := bits_eq (v := (vals (2 ^ n) ds1 xs).getD o1.toNat 0) (u := (vals (2 ^ n) ds2 xs).getD o2.toNat 0) n fun t ht => by
    rw [← ob_bit ok1 hm hx ht, ← ob_bit ok2 hm hx ht]
    exact bfs_agree h hc (fun t => xs.map (bitA t)) (cols_in hm) (pc := fun t => (crry ds1 xs t, crry ds2 xs t)) rfl (fun _ => rfl) (by omega)
  rwa [wr_range ok1 hm hx, wr_range ok2 hm hx] at e
/-- where the bits are unlike, the words told part the rows -/
theorem bfs_apart {m : Nat} {ds1 ds2 : List Deed} {o1 o2 : Int} {ps : List PC} {wy : List (Int × List Int)} {cu : Nat} {q : PC} {bs : List Int} (h : Bfs m ds1 o1 ds2 o2 ps wy cu) (hq : ps[cu]? = some q) (ok1 : RowOk m ds1 o1) (ok2 : RowOk m ds2 o2) (hb : bs ∈ allB m) (hne : ¬ ob ds1 o1 q.1 bs = ob ds2 o2 q.2 bs) :
    (∀ c ∈ path wy cu ++ [bs], c.length = m ∧ ∀ x ∈ c, Bit x) ∧ ¬ (vals (2 ^ (path wy cu ++ [bs]).length) ds1 (wofL m (path wy cu ++ [bs]))).getD o1.toNat 0 = (vals (2 ^ (path wy cu ++ [bs]).length) ds2 (wofL m (path wy cu ++ [bs]))).getD o2.toNat 0 := by
  obtain ⟨p1, p2⟩ := bfs_path h cu cu q (Nat.le_refl _) hq
  have hall : ∀ c ∈ path wy cu ++ [bs], c.length = m ∧ ∀ x ∈ c, Bit x := fun c hc => by
    rcases List.mem_append.mp hc with z | z
    · exact allB_ok m c (p1 c z)
    · rw [List.mem_singleton.mp z]
      exact allB_ok m bs hb
  refine ⟨hall, fun e => hne ?_⟩
  have hl : (path wy cu ++ [bs]).length = (path wy cu).length + 1 := by rw [List.length_append]; rfl
  have hx := wofL_range hall
  have hm := wofL_len m (path wy cu ++ [bs])
  have hg : (path wy cu ++ [bs])[(path wy cu).length]? = some bs := by rw [List.getElem?_append_right (Nat.le_refl _), Nat.sub_self]; rfl
  have b1 := ob_bit (t := (path wy cu).length) ok1 hm hx (by omega)
  have b2 := ob_bit (t := (path wy cu).length) ok2 hm hx (by omega)
  rw [crry_run hall _ (by omega), wofL_bits hall hg, List.take_left] at b1 b2
  rw [p2, b1, b2, e]
theorem pth_app {wy : List (Int × List Int)} (h : WayOk wy) (e : Int × List Int) : ∀ (f i : Nat), i < wy.length → pth (wy ++ [e]) f i = pth wy f i
  | 0, _, _ => rfl
  | f + 1, i, hi => by
    show (if i = 0 then [] else _) = (if i = 0 then [] else _)
    by_cases h0 : i = 0
    · rw [if_pos h0, if_pos h0]
    · rw [if_neg h0, if_neg h0, List.getElem?_append_left hi]
      have he : wy[i]? = some wy[i] := List.getElem?_eq_getElem hi
      have := h i _ he (by omega)
      rw [he]
      have hh := pth_app h e f wy[i].1.toNat (by omega)
      dsimp only
      rw [hh]
theorem path_app {wy : List (Int × List Int)} (h : WayOk wy) (e : Int × List Int) {i : Nat} (hi : i < wy.length) : path (wy ++ [e]) i = path wy i := pth_app h e i i hi
theorem dep_app {wy : List (Int × List Int)} (h : WayOk wy) (e : Int × List Int) {i : Nat} (hi : i < wy.length) : dep (wy ++ [e]) i = dep wy i := congrArg List.length (path_app h e hi)
/-- the current one is being looked at, by the first so many bits -/
structure BfsP (m : Nat) (ds1 : List Deed) (o1 : Int) (ds2 : List Deed) (o2 : Int) (ps : List PC) (wy : List (Int × List Int)) (cu k : Nat) (q : PC) : Prop where
  bfs : Bfs m ds1 o1 ds2 o2 ps wy cu
  here : ps[cu]? = some q
  near : ∀ j : Nat, j < ps.length → dep wy j ≤ dep wy cu + 1
  some : ∀ bs ∈ (allB m).take k, ob ds1 o1 q.1 bs = ob ds2 o2 q.2 bs ∧ ∃ i' : Nat, ps[i']? = some (nx2 ds1 ds2 q bs) ∧ dep wy i' ≤ dep wy cu + 1
theorem bfsp_old {m : Nat} {ds1 ds2 : List Deed} {o1 o2 : Int} {ps : List PC} {wy : List (Int × List Int)} {cu k : Nat} {q : PC} {bs : List Int} (h : BfsP m ds1 o1 ds2 o2 ps wy cu k q) (hb : (allB m)[k]? = some bs) (he : ob ds1 o1 q.1 bs = ob ds2 o2 q.2 bs) {i : Nat} (hi : ps[i]? = some (nx2 ds1 ds2 q bs)) : BfsP m ds1 o1 ds2 o2 ps wy cu (k + 1) q := by
  refine ⟨h.bfs, h.here, h.near, fun b hb' => ?_⟩
  rw [List.take_add_one, hb] at hb'
  rcases List.mem_append.mp hb' with z | z
  · exact h.some b z
  · obtain rfl : b = bs := by simpa using z
    exact ⟨he, i, hi, h.near i (List.getElem?_eq_some_iff.mp hi).1⟩
theorem bfsp_new {m : Nat} {ds1 ds2 : List Deed} {o1 o2 : Int} {ps : List PC} {wy : List (Int × List Int)} {cu k : Nat} {q : PC} {bs : List Int} (h : BfsP m ds1 o1 ds2 o2 ps wy cu k q) (hb : (allB m)[k]? = some bs) (he : ob ds1 o1 q.1 bs = ob ds2 o2 q.2 bs) : BfsP m ds1 o1 ds2 o2 (ps ++ [nx2 ds1 ds2 q bs]) (wy ++ [((cu : Int), bs)]) cu (k + 1) q := by
  have hB := h.bfs
  have hc := (List.getElem?_eq_some_iff.mp h.here).1
  have hl := hB.len
  have old : ∀ {j : Nat}, j < ps.length → dep (wy ++ [((cu : Int), bs)]) j = dep wy j := fun {j} hj => dep_app hB.ways _ (by omega)
  have wok : WayOk (wy ++ [((cu : Int), bs)]) := fun j e hj h0 => by
    by_cases hlt : j < wy.length
    · rw [List.getElem?_append_left hlt] at hj
      exact hB.ways j e hj h0
    · rw [List.getElem?_append_right (by omega)] at hj
      have hj1 := (List.getElem?_eq_some_iff.mp hj).1
      have e0 : j - wy.length = 0 := by simp only [List.length_cons, List.length_nil] at hj1; omega
      rw [e0] at hj
      obtain rfl : ((cu : Int), bs) = e := Option.some.inj hj
      show (0 : Int) ≤ (cu : Int) ∧ (cu : Int) < (j : Int)
      omega
  have last : (wy ++ [((cu : Int), bs)])[ps.length]? = some ((cu : Int), bs) := by
    rw [List.getElem?_append_right (by omega), hl, Nat.sub_self]
    rfl
  have dnew : dep (wy ++ [((cu : Int), bs)]) ps.length = dep wy cu + 1 := by
    unfold dep
    rw [path_next wok (by omega) last, List.length_append]
    show (path (wy ++ [((cu : Int), bs)]) (cu : Int).toNat).length + 1 = _
    rw [Int.toNat_natCast, path_app hB.ways _ (by omega)]
  have lift : ∀ {j : Nat} {r : PC}, ps[j]? = some r → (ps ++ [nx2 ds1 ds2 q bs])[j]? = some r := fun {j r} hj => by
    rw [List.getElem?_append_left (List.getElem?_eq_some_iff.mp hj).1]
    exact hj
  have back : ∀ {j : Nat} {r : PC}, j < ps.length → (ps ++ [nx2 ds1 ds2 q bs])[j]? = some r → ps[j]? = some r := fun {j r} hj hr => by
    rwa [List.getElem?_append_left hj] at hr
  have pl : (ps ++ [nx2 ds1 ds2 q bs]).length = ps.length + 1 := by rw [List.length_append]; rfl
  have cases' : ∀ {j : Nat}, j < (ps ++ [nx2 ds1 ds2 q bs]).length → j < ps.length ∨ j = ps.length := fun {j} hj => by omega
  have near' : ∀ j : Nat, j < (ps ++ [nx2 ds1 ds2 q bs]).length → dep (wy ++ [((cu : Int), bs)]) j ≤ dep wy cu + 1 := fun j hj => by
    rcases cases' hj with z | rfl
    · rw [old z]
      exact h.near j z
    · rw [dnew]
      exact Nat.le_refl _
  refine ⟨⟨lift hB.first, wok, by rw [List.length_append, pl, hl]; rfl, fun j e hj h0 => ?_, fun i r hi hr b hb' => ?_, fun i j hij hj => ?_⟩, lift h.here, fun j hj => by rw [old hc]; exact near' j hj, fun b hb' => ?_⟩
  · by_cases hlt : j < wy.length
    · rw [List.getElem?_append_left hlt] at hj
      obtain ⟨a1, r, a2, a3⟩ := hB.link j e hj h0
      exact ⟨a1, r, lift a2, lift a3⟩
    · have hj1 := (List.getElem?_eq_some_iff.mp hj).1
      rw [List.length_append] at hj1
      obtain rfl : j = ps.length := by
        have : j < wy.length + 1 := hj1
        omega
      rw [last] at hj
      obtain rfl : ((cu : Int), bs) = e := Option.some.inj hj
      refine ⟨List.mem_of_getElem? hb, q, ?_, ?_⟩
      · show (ps ++ [nx2 ds1 ds2 q bs])[(cu : Int).toNat]? = _
        rw [Int.toNat_natCast]
        exact lift h.here
      · rw [List.getElem?_append_right (Nat.le_refl _), Nat.sub_self]
        rfl
  · have hi' : i < ps.length := by omega
    obtain ⟨a1, i', a2, a3⟩ := hB.done i r hi (back hi' hr) b hb'
    refine ⟨a1, i', lift a2, ?_⟩
    rw [old hi', old (List.getElem?_eq_some_iff.mp a2).1]
    exact a3
  · rcases cases' hj with z | rfl
    · rw [old z, old (by omega)]
      exact hB.mono i j hij z
    · rw [dnew]
      exact near' i (by omega)
  · rw [List.take_add_one, hb] at hb'
    rw [old hc]
    rcases List.mem_append.mp hb' with z | z
    · obtain ⟨a1, i', a2, a3⟩ := h.some b z
      refine ⟨a1, i', lift a2, ?_⟩
      rw [old (List.getElem?_eq_some_iff.mp a2).1]
      exact a3
    · obtain rfl : b = bs := by simpa using z
      refine ⟨he, ps.length, ?_, by rw [dnew]; exact Nat.le_refl _⟩
      rw [List.getElem?_append_right (Nat.le_refl _), Nat.sub_self]
      rfl
theorem bfsp_done {m : Nat} {ds1 ds2 : List Deed} {o1 o2 : Int} {ps : List PC} {wy : List (Int × List Int)} {cu : Nat} {q : PC} (h : BfsP m ds1 o1 ds2 o2 ps wy cu (allB m).length q) : Bfs m ds1 o1 ds2 o2 ps wy (cu + 1) ∧ ∀ j : Nat, cu + 1 < ps.length → j < ps.length → dep wy j ≤ dep wy (cu + 1) + 1 := by
  refine ⟨⟨h.bfs.first, h.bfs.ways, h.bfs.len, h.bfs.link, fun i r hi hr bs hbs => ?_, h.bfs.mono⟩, fun j hc hj => ?_⟩
  · by_cases hlt : i < cu
    · exact h.bfs.done i r hlt hr bs hbs
    · obtain rfl : i = cu := by omega
      rw [h.here] at hr
      obtain rfl := Option.some.inj hr
      exact h.some bs (by rw [List.take_length]; exact hbs)
  · have a := h.near j hj
    have b := h.bfs.mono cu (cu + 1) (by omega) hc
    omega
theorem bfs_first (m : Nat) (ds1 : List Deed) (o1 : Int) (ds2 : List Deed) (o2 : Int) : Bfs m ds1 o1 ds2 o2 [(ds1.map fcD, ds2.map fcD)] [(0, [])] 0 := by
  refine ⟨rfl, fun j e hj h0 => ?_, rfl, fun j e hj h0 => ?_, fun i r hi => absurd hi (Nat.not_lt_zero _), fun i j hij hj => ?_⟩
  · have := (List.getElem?_eq_some_iff.mp hj).1
    simp only [List.length_cons, List.length_nil] at this
    omega
  · have := (List.getElem?_eq_some_iff.mp hj).1
    simp only [List.length_cons, List.length_nil] at this
    omega
  · simp only [List.length_cons, List.length_nil] at hj
    obtain rfl : j = 0 := by omega
    obtain rfl : i = 0 := by omega
    exact Nat.le_refl _
def kP (c1 c2 : List Int) : NestedKey := .tup [kC c1, kC c2]
theorem kP_inj {a b c d : List Int} (h : kP a b = kP c d) : a = c ∧ b = d := by
  have h1 := NestedKey.tup.inj h
  rw [List.cons.injEq, List.cons.injEq] at h1
  exact ⟨kC_inj h1.1, kC_inj h1.2.1⟩
def PrC (H : Hp) (p : Addr) (q : PC) : Prop := ∃ A B, H p = some (.tup [.ref A, .ref B]) ∧ H A = some (.tup (q.1.map V.int)) ∧ H B = some (.tup (q.2.map V.int))
theorem PrC.stay {H H' : Hp} {p : Addr} {q : PC} (h : PrC H p q) (t : TupsStay H H') : PrC H' p q := by
  obtain ⟨A, B, e1, e2, e3⟩ := h
  exact ⟨A, B, t _ _ e1, t _ _ e2, t _ _ e3⟩
theorem keyP {H : Hp} {T : Addr} {q : PC} (h : PrC H T q) : KeyN H (.ref T) (kP q.1 q.2) := by
  obtain ⟨A, B, e1, e2, e3⟩ := h
  refine ⟨.tup e1 (.cons (keyC e2).1 (.cons (keyC e3).1 .nil)), ?_, T, rfl⟩
  unfold kP kC
  simp [NestedKey.depth, NestedKey.depthAll, nums_depth]
theorem kC_at {H : Hp} {v : V} {c : List Int} (h : NkAt H (kC c) v) : ∃ A, v = .ref A ∧ H A = some (.tup (c.map V.int)) := by
  unfold kC at h
  cases h with
  | tup e hs => exact ⟨_, rfl, by rw [← nks_eq hs]; exact e⟩
theorem prC_of {H : Hp} {T : Addr} {q : PC} (h : NkAt H (kP q.1 q.2) (.ref T)) : PrC H T q := by
  unfold kP at h
  cases h with
  | tup e hs =>
    cases hs with
    | cons h1 h2 =>
      cases h2 with
      | cons h3 h4 =>
        cases h4
        obtain ⟨A, rfl, eA⟩ := kC_at h1
        obtain ⟨B, rfl, eB⟩ := kC_at h3
        exact ⟨A, B, e, eA, eB⟩
abbrev PtAt (H : Hp) : List Addr → List PC → Prop := Paired (PrC H)
theorem ptat_stay {H H' : Hp} (t : TupsStay H H') {qs : List Addr} {l : List PC} (h : PtAt H qs l) : PtAt H' qs l := awMap (fun _ _ e => e.stay t) h
structure PcOk (ds1 ds2 : List Deed) (q : PC) : Prop where
  l1 : q.1.length = ds1.length
  b1 : ∀ x ∈ q.1, Bit x
  l2 : q.2.length = ds2.length
  b2 : ∀ x ∈ q.2, Bit x
theorem nx2_ok {m : Nat} {ds1 ds2 : List Deed} {q : PC} {bs : List Int} (h : PcOk ds1 ds2 q) (hb : bs ∈ allB m) : PcOk ds1 ds2 (nx2 ds1 ds2 q bs) := by
  have h3 := (allB_ok m bs hb).2
  exact ⟨nxt_len h.l1.symm, nxt_bits (bts_bits h3 h.b1) h.b1, nxt_len h.l2.symm, nxt_bits (bts_bits h3 h.b2) h.b2⟩
theorem pc_first (ds1 ds2 : List Deed) : PcOk ds1 ds2 (ds1.map fcD, ds2.map fcD) := ⟨(rch_shp (crry_rch ds1 [] 0)).len, (rch_shp (crry_rch ds1 [] 0)).bits, (rch_shp (crry_rch ds2 [] 0)).len, (rch_shp (crry_rch ds2 [] 0)).bits⟩
/-- as many pairs as there can be -/
theorem few_pairs {ds1 ds2 : List Deed} {ps : List PC} (nd : ps.Nodup) (h : ∀ q ∈ ps, PcOk ds1 ds2 q) (l1 : ds1.length ≤ 8) (l2 : ds2.length ≤ 8) : ps.length ≤ 65536 := by
  have bn : ∀ n : Nat, ∀ c : List Int, c.length = n → (∀ x ∈ c, Bit x) → c ∈ allB n := fun n c hc hb => allB_all n c hc hb
  have sub : ∀ q ∈ ps, q ∈ (allB ds1.length).flatMap fun a => (allB ds2.length).map fun b => (a, b) := fun q hq => by
    have k := h q hq
    exact List.mem_flatMap.mpr ⟨q.1, bn _ _ k.l1 k.b1, List.mem_map.mpr ⟨q.2, bn _ _ k.l2 k.b2, rfl⟩⟩
  have le := pigeon ps _ nd sub
  have key : ∀ L : List (List Int), (L.flatMap fun a => (allB ds2.length).map fun b => (a, b)).length = L.length * 2 ^ ds2.length := by
    intro L
    induction L with
    | nil => simp
    | cons a L ih =>
      rw [List.flatMap_cons, List.length_append, ih, List.length_map, allB_len, List.length_cons, Nat.succ_mul]
      omega
  rw [key, allB_len] at le
  have p1 : 2 ^ ds1.length ≤ 256 := Nat.le_trans (Nat.pow_le_pow_right (by decide) l1) (by decide)
  have p2 : 2 ^ ds2.length ≤ 256 := Nat.le_trans (Nat.pow_le_pow_right (by decide) l2) (by decide)
  have := Nat.mul_le_mul p1 p2
  omega
def spCp (cP : Addr) : Sp := fun vs H Q E => ∃ (R1 R2 : Addr) (m1 m2 o1 o2 : Int) (ds1 ds2 : List Deed), vs = [.ref R1, .ref R2] ∧ RowAt H R1 m1 ds1 o1 ∧ RowAt H R2 m2 ds2 o2 ∧ RowOk m1 ds1 o1 ∧ RowOk m2 ds2 o2 ∧
  (m1 = m2 → Q .non H) ∧ (¬ m1 = m2 → E (.ref cP) none H)
theorem ok_cp {f cP : Addr} {fd : FuncData} {k : Nat} (F : Fun K "check_pair" "check_pair" s_check_pair f fd) (rP : Rai K mg "NoPair" cP) : FnOk P w K mg base (L2.CX P w) (k + 1) f fd ["row", "other"] (spCp cP) := by
  refine F.okX sc_check_pair (fun vs H Q E h => ?_) (fun cdv A outer s H vs Q E hr h => ?_)
  · obtain ⟨R1, R2, m1, m2, o1, o2, ds1, ds2, rfl, _⟩ := h
    rfl
  · obtain ⟨R1, R2, m1, m2, o1, o2, ds1, ds2, rfl, hr1, hr2, ok1, ok2, q, qE⟩ := h
    obtain ⟨D1, rs1, e1, _, _⟩ := id hr1
    obtain ⟨D2, rs2, e2, _, _⟩ := id hr2
    refine ⟨_, pss_one (ps_if (pt_cmpR op_ne (pe_ix ix_tup (pv 0) pe_int (fun _ _ => rfl)) (pe_ix ix_tup (pv 1) pe_int (fun _ _ => rfl)) (nomark _))
        (pss_one (ps_raise rfl (takes_of rfl rfl rfl rfl) (SkE.pmk_own1 PySem.F.excBase_ValueError rP.q rP.g rP.k (raises_own rP.s rP.t) (by rfl) (pe_joined (.cons pe_str (.cons (pe_fmt (pe_ix ix_tup (pv 0) pe_int (fun _ _ => rfl))) (.cons pe_str (.cons (pe_fmt (pe_ix ix_tup (pv 1) pe_int (fun _ _ => rfl))) (.cons pe_str .nil))))))))) pss_nil), ?_⟩
    have a1 := ok1.m1
    have a3 := ok1.m3
    have b1 := ok2.m1
    have b3 := ok2.m3
    refine ⟨.ref R1, rfl, R1, _, 0, .int m1, rfl, rfl, SqT.of e1, row0, .ref R2, rfl, R2, _, 0, .int m2, rfl, rfl, SqT.of e2, row0, ⟨rfl, _, rfl, ite2 (fun hne => ?_) (fun heq => ?_)⟩⟩
    · have l1 : m1.natAbs < 1000 := by omega
      have l2 : m2.natAbs < 1000 := by omega
      have j0 := js_len (acc := Str.empty) (y := "rows of ") (a := 0) (b := 8) (by decide) (by decide +kernel) (by decide)
      have j1 := js_len j0.2 (b := 4) (iX_len l1) (by decide)
      have j2 := js_len (y := " and of ") j1.2 (b := 8) (by decide +kernel) (by decide)
      have j3 := js_len j2.2 (b := 4) (iX_len l2) (by decide)
      have j4 := js_len (y := " inputs") j3.2 (b := 7) (by decide +kernel) (by decide)
      exact ⟨_, rfl, j0.1, .ref R1, rfl, R1, _, 0, .int m1, rfl, rfl, SqT.of e1, row0, .inr ⟨m1, rfl, log_small l1, _, rfl, j1.1, _, rfl, j2.1, .ref R2, rfl, R2, _, 0, .int m2, rfl, rfl, SqT.of e2, row0, .inr ⟨m2, rfl, log_small l2, _, rfl, j3.1, _, rfl, j4.1, qE (neT hne)⟩⟩⟩
    · exact q (neF heq)
def kQ (q : PC) : NestedKey := kP q.1 q.2
theorem kQ_inj {a b : PC} (h : kQ a = kQ b) : a = b := Prod.ext (kP_inj h).1 (kP_inj h).2
theorem keys_atP {ps : List PC} {ts : List WT} (e : ts.map (·.1) = ps.map kQ) {i : Nat} {t : WT} (h : ts[i]? = some t) : ∃ c, ps[i]? = some c ∧ t.1 = kQ c := by
  have h1 : (ts.map (·.1))[i]? = some t.1 := by rw [List.getElem?_map, h]; rfl
  rw [e, List.getElem?_map] at h1
  cases hc : ps[i]? with
  | none => rw [hc] at h1; cases h1
  | some c => rw [hc] at h1; exact ⟨c, rfl, (Option.some.inj h1).symm⟩
theorem keys_lenP {ps : List PC} {ts : List WT} (e : ts.map (·.1) = ps.map kQ) : ts.length = ps.length := by
  have := congrArg List.length e
  rwa [List.length_map, List.length_map] at this
theorem keys_ndP {ps : List PC} {ts : List WT} (h : (ts.map (·.1)).Nodup) (e : ts.map (·.1) = ps.map kQ) : ps.Nodup := by
  rw [e] at h
  exact List.Pairwise.imp (fun {a b} z y => z (congrArg kQ y)) (List.pairwise_map.mp h)
theorem walk_pt {C p M N W : Addr} {H : Hp} {ts : List WT} {wy : List (Int × List Int)} {ps : List PC} (h : WalkAt P w C H p M N W ts wy) (e : ts.map (·.1) = ps.map kQ) : PtAt H (ts.map (·.2)) ps := by
  have key : ∀ {l : List WT} {qs : List PC}, (∀ t ∈ l, KeyN H (.ref t.2) t.1) → l.map (·.1) = qs.map kQ → PtAt H (l.map (·.2)) qs := by
    intro l
    induction l with
    | nil =>
      intro qs _ e
      cases qs with
      | nil => exact .nil
      | cons a b => cases e
    | cons t l ih =>
      intro qs hk e
      cases qs with
      | nil => cases e
      | cons a b =>
        rw [List.map_cons, List.map_cons, List.cons.injEq] at e
        refine .cons ?_ (ih (fun x hx => hk x (List.mem_cons_of_mem _ hx)) e.2)
        have := (hk t List.mem_cons_self).1
        rw [e.1] at this
        exact prC_of this
  exact key h.keys e
def spAl (cP : Addr) : Sp := fun vs H Q E => ∃ (R1 R2 : Addr) (m1 m2 : Nat) (o1 o2 : Int) (ds1 ds2 : List Deed), vs = [.ref R1, .ref R2] ∧ RowAt H R1 m1 ds1 o1 ∧ RowAt H R2 m2 ds2 o2 ∧ RowOk m1 ds1 o1 ∧ RowOk m2 ds2 o2 ∧
  (m1 = m2 → (∀ H' T M as ps wy, Same H H' → H T = none → H M = none → H' T = some (.tup [.str "alike", .ref M]) → H' M = some (.lst (as.map V.ref)) → PtAt H' as ps → Bfs m1 ds1 o1 ds2 o2 ps wy ps.length → ps.Nodup → (∀ q ∈ ps, PcOk ds1 ds2 q) → Q (.ref T) H') ∧
    (∀ H' T L ps wy cu q bs, Same H H' → H T = none → H L = none → H' T = some (.tup [.str "apart", .int ((path wy cu ++ [bs]).length : Nat), .ref L]) → H' L = some (.lst ((wofL m1 (path wy cu ++ [bs])).map V.int)) → Bfs m1 ds1 o1 ds2 o2 ps wy cu → ps[cu]? = some q → bs ∈ allB m1 → ¬ ob ds1 o1 q.1 bs = ob ds2 o2 q.2 bs → ps.length ≤ 65536 → (path wy cu).length ≤ 65536 → Q (.ref T) H')) ∧
  (¬ m1 = m2 → ∀ H', Same H H' → E (.ref cP) none H')
theorem pth_le (wy : List (Int × List Int)) : ∀ f i, (pth wy f i).length ≤ f
  | 0, _ => Nat.le_refl _
  | f + 1, i => by
    show (if i = 0 then [] else match wy[i]? with | some e => pth wy f e.1.toNat ++ [e.2] | none => []).length ≤ _
    by_cases h : i = 0
    · rw [if_pos h]; exact Nat.zero_le _
    · rw [if_neg h]
      cases wy[i]? with
      | none => exact Nat.zero_le _
      | some e =>
        dsimp only
        rw [List.length_append]
        have := pth_le wy f e.1.toNat
        show _ + 1 ≤ _
        omega
theorem zip_stp {m : Nat} {ds1 ds2 : List Deed} {o1 o2 : Int} {q : PC} {j : Nat} {be : Bst2} {bs : List Int} (h : ((stp m ds1 o1 q.1).zip (stp m ds2 o2 q.2))[j]? = some be) (hb : (allB m)[j]? = some bs) : be = ((ob ds1 o1 q.1 bs, nc ds1 q.1 bs), (ob ds2 o2 q.2 bs, nc ds2 q.2 bs)) := by
  obtain ⟨h1, h2⟩ := List.getElem?_zip_eq_some.mp h
  unfold stp at h1 h2
  rw [List.getElem?_map, hb] at h1 h2
  exact Prod.ext (Option.some.inj h1).symm (Option.some.inj h2).symm
set_option maxHeartbeats 4000000 in
theorem ok_al {f fC fA fF fB fK fWd C cP : Addr} {fd fdC fdA fdF fdB fdK fdWd fdI fdM fdT : FuncData} {k : Nat} {fI fM fT : Addr} (F : Fun K "alike" "alike" s_alike f fd) (T : WCls K mg C)
    (GC : FnOk P w K mg base (L2.CX P w) (k + 1) fC fdC ["row", "other"] (spCp cP)) (kC' : PySem.W.keepIn K (.ref fC) = true) (bC : Binds K fdC ["row", "other"] []) (gC : mg "check_pair" = some (.ref fC))
    (GA : FnOk P w K mg base CX0 (k + 1) fA fdA ["many"] spAll) (kA : PySem.W.keepIn K (.ref fA) = true) (bA : Binds K fdA ["many"] []) (gA : mg "all_bits" = some (.ref fA))
    (GF : FnOk P w K mg base CX0 (k + 1) fF fdF ["row"] spFc) (kF : PySem.W.keepIn K (.ref fF) = true) (bF : Binds K fdF ["row"] []) (gF : mg "first_carry" = some (.ref fF))
    (GB : FnOk P w K mg base CX0 (k + 1) fB fdB ["ones", "others"] spBs2) (kB : PySem.W.keepIn K (.ref fB) = true) (bB : Binds K fdB ["ones", "others"] []) (gB : mg "both_steps" = some (.ref fB))
    (GK : FnOk P w K mg base CX0 (k + 5) fK fdK ["kept", "row", "carry"] spKs) (kK : PySem.W.keepIn K (.ref fK) = true) (bK : Binds K fdK ["kept", "row", "carry"] []) (gK : mg "kept_steps" = some (.ref fK))
    (GW : FnOk P w K mg base CX0 (k + 1) fWd fdWd ["many", "columns"] spWf) (kW : PySem.W.keepIn K (.ref fWd) = true) (bW : Binds K fdWd ["many", "columns"] []) (gW : mg "words_of" = some (.ref fWd))
    (MK : Mk K C fI) (GI : FnOk P w K mg base CX0 (k + 1) fI fdI ["self", "first"] (spWi P w C)) (bI : Binds K fdI ["self", "first"] [])
    (MM : Meth K C "meet" fM) (GM : FnOk P w K mg base CX0 (k + 1) fM fdM ["self", "thing", "ahead", "bits"] (spWm P w C)) (bM : Binds K fdM ["self", "thing", "ahead", "bits"] [])
    (MT : Meth K C "bits_to" fT) (GT : FnOk P w K mg base CX0 (k + 1) fT fdT ["self", "number"] (spBt P w C)) (bT : Binds K fdT ["self", "number"] [])
    (mn : mg "len" = none) (mz : mg "zip" = none) : FnOk P w K mg base (L2.CX P w) (k + 6) f fd ["row", "other"] (spAl cP) := by
  refine F.okX sc_alike (fun vs H Q E h => ?_) (fun cdv A outer s H vs Q E hr h => ?_)
  · obtain ⟨R1, R2, m1, m2, o1, o2, ds1, ds2, rfl, _⟩ := h
    rfl
  · obtain ⟨R1, R2, m1, m2, o1, o2, ds1, ds2, rfl, hr1, hr2, ok1, ok2, q, qE⟩ := h
    have r1 := hr.mono (show k + 1 ≤ k + 5 by omega)
    have r2 := hr.mono (show k + 1 + 1 ≤ k + 5 by omega)
    refine ⟨_, pss_cons (ps_expr (pe_callS GC r1 (by rfl) gC kC' bC (fun σ => passAt (takes_of rfl rfl rfl rfl) σ) (pa_cons (pv 0) (pa_cons (pv 1) pa_nil))))
      (pss_cons (ps_set (i := 2) sc_alike.nd rfl (.inl rfl) (pe_call GA r1 (by rfl) gA kA bA .nil pass0 (pa_cons (pe_ix ix_tup (pv 0) pe_int (fun _ _ => rfl)) pa_nil)))
      (pss_cons (ps_par (i := 3) (j := 4) rfl sc_alike.nd rfl rfl (by decide) rfl rfl (pa_cons pe_dnewT (pa_cons pe_dnewT pa_nil)) (by rfl))
      (pss_cons (ps_set (i := 5) sc_alike.nd rfl (.inl rfl) (pe_make MK GI r2 (by rfl) T.mgC bI .nil pass0 (pa_cons (pe_tup (pa_cons (pe_call GF r1 (by rfl) gF kF bF .nil pass0 (pa_cons (pv 0) pa_nil)) (pa_cons (pe_call GF r1 (by rfl) gF kF bF .nil pass0 (pa_cons (pv 1) pa_nil)) pa_nil))) pa_nil)))
      (pss_cons (ps_set (i := 6) sc_alike.nd rfl (.inl rfl) pe_int)
      (pss_cons (ps_while (passes_of rfl) (pt_cmpR op_lt (pv 6) (pe_callB call_len_seq (by rfl) mn PySem.boot_len (pa_cons (pe_fld (pv 5) rfl) pa_nil)) (nomark _))
        (pss_cons (ps_asg (pe_ix ix_list (pe_fld (pv 5) rfl) (pv 6) (fun _ _ => rfl)) (pg_tup rfl (pgs_cons (pg_name (i := 7) sc_alike.nd rfl (.inl rfl)) (pgs_cons (pg_name (i := 8) sc_alike.nd rfl (.inl rfl)) pgs_nil))))
        (pss_cons (ps_set (i := 9) sc_alike.nd rfl (.inl rfl) (pe_call GB r1 (by rfl) gB kB bB .nil pass0 (pa_cons (pe_call GK hr (by rfl) gK kK bK .nil pass0 (pa_cons (pv 3) (pa_cons (pv 0) (pa_cons (pv 7) pa_nil)))) (pa_cons (pe_call GK hr (by rfl) gK kK bK .nil pass0 (pa_cons (pv 4) (pa_cons (pv 1) (pa_cons (pv 8) pa_nil)))) pa_nil))))
        (pss_cons (ps_for (passes_of rfl) rfl (pi_zip (by rfl) mz (pa_cons (pv 2) (pa_cons (pv 9) pa_nil))) (pg_tup rfl (pgs_cons (pg_name (i := 10) sc_alike.nd rfl (.inl rfl)) (pgs_cons (pg_tup rfl (pgs_cons (pg_name (i := 11) sc_alike.nd rfl (.inl rfl)) (pgs_cons (pg_name (i := 12) sc_alike.nd rfl (.inl rfl)) (pgs_cons (pg_name (i := 13) sc_alike.nd rfl (.inl rfl)) pgs_nil)))) pgs_nil)))
          (pss_cons (ps_if (pt_cmpR op_ne (pv 11) (pv 12) (nomark _))
            (pss_cons (ps_set (i := 14) sc_alike.nd rfl (.inl rfl) (pe_op op_cat (pe_meth (pv 5) T.cl MT GT r1 bT .nil pass0 (pa_cons (pv 6) pa_nil)) (pe_lst (pa_cons (pv 10) pa_nil))))
            (pss_one (ps_ret (pe_tup (pa_cons pe_str (pa_cons (pe_callB call_len_seq (by rfl) mn PySem.boot_len (pa_cons (pv 14) pa_nil)) (pa_cons (pe_call GW r1 (by rfl) gW kW bW .nil pass0 (pa_cons (pe_ix ix_tup (pv 0) pe_int (fun _ _ => rfl)) (pa_cons (pv 14) pa_nil))) pa_nil))))))) pss_nil)
          (pss_one (ps_expr (pe_meth (pv 5) T.cl MM GM r1 bM .nil pass0 (pa_cons (pv 13) (pa_cons (pv 6) (pa_cons (pv 10) pa_nil))))))))
        (pss_one (ps_aug (i := 6) sc_alike.nd rfl (.inl rfl) pe_int ip_add))))))
      (pss_one (ps_ret (pe_tup (pa_cons pe_str (pa_cons (pe_fld (pv 5) rfl) pa_nil)))))))))), ?_⟩
    refine ⟨.ref R1, rfl, .ref R2, rfl, R1, R2, m1, m2, o1, o2, ds1, ds2, rfl, hr1, hr2, ok1, ok2, fun em => ?_, fun ne => qE (fun z => ne (congrArg Int.ofNat z)) H (Same.refl H)⟩
    obtain rfl : m1 = m2 := Int.ofNat.inj em
    obtain ⟨qA, qB⟩ := q rfl
    have m3 := ok1.m3
    have l81 := ok1.len
    have l82 := ok2.len
    obtain ⟨Dd1, rs1, eR1, eDd1, hd1⟩ := id hr1
    refine ⟨.ref R1, rfl, R1, _, 0, .int m1, rfl, rfl, SqT.of eR1, rfl, m1, rfl, by omega, fun H1 Ch fs s1 nCh eCh hf => ?_⟩
    have fl : fs.length = 2 ^ m1 := by rw [awLen hf, allB_len]
    intro D1 hD1 D2 hD2
    have sD1 := same_new (o := .dT []) hD1
    have sD2 := same_new (o := .dT []) hD2
    have n12 : D1 ≠ D2 := fun z => by rw [← z, upd_same] at hD2; cases hD2
    have sD := sD1.trans sD2
    have eD1 : upd (upd H1 D1 (.dT [])) D2 (.dT []) D1 = some (.dT []) := by
      rw [upd_ne n12]
      exact upd_same
    have eD2 : upd (upd H1 D1 (.dT [])) D2 (.dT []) D2 = some (.dT []) := upd_same
    obtain ⟨H2, hH2⟩ : ∃ H2, H2 = upd (upd H1 D1 (.dT [])) D2 (.dT []) := ⟨_, rfl⟩
    rw [← hH2] at sD eD1 eD2 ⊢
    have nD1 : H1 D1 = none := hD1
    have nD2 : H1 D2 = none := sD1.free hD2
    have s02 := s1.trans sD
    refine ⟨_, _, rfl, ?_⟩
    refine ⟨.ref R1, rfl, R1, m1, o1, ds1, rfl, (Same.tups s02).row hr1, by omega, fun Ha F1 sa nF1 eF1 => ?_⟩
    refine ⟨.ref R2, rfl, R2, m1, o2, ds2, rfl, (Same.tups (s02.trans sa)).row hr2, by omega, fun Hb F2 sb nF2 eF2 => ?_⟩
    refine ⟨(by show 2 ≤ sizeLine; decide), fun Fi hFi => ?_⟩
    have sFi := same_new (o := .tup [.ref F1, .ref F2]) hFi
    have pFi : PrC (upd Hb Fi (.tup [.ref F1, .ref F2])) Fi (ds1.map fcD, ds2.map fcD) := ⟨F1, F2, upd_same, sFi _ _ (sb _ _ eF1), sFi _ _ eF2⟩
    obtain ⟨H2b, hH2b⟩ : ∃ H2b, H2b = upd Hb Fi (.tup [.ref F1, .ref F2]) := ⟨_, rfl⟩
    rw [← hH2b] at sFi pFi ⊢
    have s22 : Same H2 H2b := sa.trans (sb.trans sFi)
    intro Wk dx nWk ndx nex
    have kW : ∀ c u, H2b c = some u → upd (upd H2b dx (.own Wk)) Wk (.ins C dx []) c = some u := fun c u e => by
      rw [upd_ne (ne_of_none e nWk), upd_ne (ne_of_none e ndx)]
      exact e
    refine ⟨Wk, dx, Fi, kQ (ds1.map fcD, ds2.map fcD), rfl, upd_same, keyP (pFi.stay fun c xs e => kW _ _ e), fun H3 M N W hw nM nN nW kp => ⟨rfl, ?_⟩⟩
    have s3 : Same H2b H3 := fun c u e => kp c u (ne_of_none e nWk) (kW c u e)
    have s23 := s22.trans s3
    have back : ∀ a : Addr, upd (upd H2b dx (.own Wk)) Wk (.ins C dx []) a = none → H2b a = none := fun a h => by
      cases e : H2b a with
      | none => rfl
      | some u => rw [kW a u e] at h; cases h
    have hM2 := s22.free (back _ nM)
    have hN2 := s22.free (back _ nN)
    have hW2 := s22.free (back _ nW)
    have hM0 := s02.free hM2
    have nD1M : D1 ≠ M := ne_of_none eD1 hM2
    have nD1N : D1 ≠ N := ne_of_none eD1 hN2
    have nD1W : D1 ≠ W := ne_of_none eD1 hW2
    have nD2M : D2 ≠ M := ne_of_none eD2 hM2
    have nD2N : D2 ≠ N := ne_of_none eD2 hN2
    have nD2W : D2 ≠ W := ne_of_none eD2 hW2
    have p8 : 2 ^ m1 ≤ 8 := Nat.le_trans (Nat.pow_le_pow_right (by decide) (show m1 ≤ 3 by omega)) (by decide)
    have kept0 : ∀ (H : Hp) (ds : List Deed) (o : Int), Kept H m1 ds o [] := fun H ds o => ⟨List.nodup_nil, (fun _ z => nomatch z), (fun _ z => nomatch z)⟩
    refine ⟨fun n σ H4 => ∃ y7 y8 y9 y10 y11 y12 y13 y14 ps ts wy es1 es2 cu, σ = [some (.ref R1), some (.ref R2), some (.ref Ch), some (.ref D1), some (.ref D2), some (.ref Wk), some (.int ((cu : Nat) : Int)), y7, y8, y9, y10, y11, y12, y13, y14] ∧ WalkAt P w C H4 Wk M N W ts wy ∧ ts.map (·.1) = ps.map kQ ∧ Bfs m1 ds1 o1 ds2 o2 ps wy cu ∧ (∀ j : Nat, cu < ps.length → j < ps.length → dep wy j ≤ dep wy cu + 1) ∧ (∀ q ∈ ps, PcOk ds1 ds2 q) ∧ cu ≤ ps.length ∧ H4 D1 = some (.dT (emb V.ref es1)) ∧ Kept H4 m1 ds1 o1 es1 ∧ (∀ e ∈ es1, e.2 ≠ M ∧ e.2 ≠ W) ∧ H4 D2 = some (.dT (emb V.ref es2)) ∧ Kept H4 m1 ds2 o2 es2 ∧ (∀ e ∈ es2, e.2 ≠ M ∧ e.2 ≠ W) ∧ Same H1 H4 ∧ n = 65537 - cu,
      ⟨_, none, none, none, none, none, none, none, none, [(ds1.map fcD, ds2.map fcD)], [(kQ (ds1.map fcD, ds2.map fcD), Fi)], [(0, [])], [], [], 0, rfl, hw, rfl, bfs_first m1 ds1 o1 ds2 o2, (fun j _ hj => ?_), (fun x hx => by rw [List.mem_singleton.mp hx]; exact pc_first ds1 ds2), Nat.zero_le _, s23 _ _ eD1, kept0 _ _ _, (fun _ z => nomatch z), s23 _ _ eD2, kept0 _ _ _, (fun _ z => nomatch z), sD.trans s23, rfl⟩, fun n σ H4 hp => ?_⟩
    · have : j < 1 := hj
      obtain rfl : j = 0 := by omega
      exact Nat.le_add_right _ _
    obtain ⟨y7, y8, y9, y10, y11, y12, y13, y14, ps, ts, wy, es1, es2, cu, rfl, hw4, ek, hB, hnear, gd, hcu, eD14, kp1, ne1, eD24, kp2, ne2, s4, rfl⟩ := hp
    obtain ⟨dxw, ob4⟩ := hw4.ob
    have psl := keys_lenP ek
    have fw := few_pairs (keys_ndP hw4.nd ek) gd l81 l82
    refine ⟨.int (cu : Int), rfl, .ref Wk, rfl, Wk, C, dxw, _, _, rfl, ob4, T.cl, T.nM, wF_met _ _ _, M, _, rfl, .inl (.inl (.inl hw4.met)), _, _, rfl, rfl, _, rfl, ite2 (fun e => ?_) (fun e => ?_)⟩
    · have lt : cu < ps.length := by
        have := of_decide_eq_true e
        rw [List.length_map] at this
        omega
      refine ⟨fun σ' H' => ∃ m', m' < 65537 - cu ∧ (∃ y7 y8 y9 y10 y11 y12 y13 y14 ps ts wy es1 es2 cu, σ' = [some (.ref R1), some (.ref R2), some (.ref Ch), some (.ref D1), some (.ref D2), some (.ref Wk), some (.int ((cu : Nat) : Int)), y7, y8, y9, y10, y11, y12, y13, y14] ∧ WalkAt P w C H' Wk M N W ts wy ∧ ts.map (·.1) = ps.map kQ ∧ Bfs m1 ds1 o1 ds2 o2 ps wy cu ∧ (∀ j : Nat, cu < ps.length → j < ps.length → dep wy j ≤ dep wy cu + 1) ∧ (∀ q ∈ ps, PcOk ds1 ds2 q) ∧ cu ≤ ps.length ∧ H' D1 = some (.dT (emb V.ref es1)) ∧ Kept H' m1 ds1 o1 es1 ∧ (∀ e ∈ es1, e.2 ≠ M ∧ e.2 ≠ W) ∧ H' D2 = some (.dT (emb V.ref es2)) ∧ Kept H' m1 ds2 o2 es2 ∧ (∀ e ∈ es2, e.2 ≠ M ∧ e.2 ≠ W) ∧ Same H1 H' ∧ m' = 65537 - cu), fun σ' H' z => z, ?_⟩
      have hti : cu < ts.length := by omega
      obtain ⟨q0, hq0, ht1⟩ := keys_atP ek (List.getElem?_eq_getElem hti)
      have hkey := hw4.keys _ (List.getElem_mem hti)
      rw [ht1] at hkey
      obtain ⟨A, B, ecb, eA, eB⟩ := prC_of hkey.1
      have pq := gd q0 (List.mem_of_getElem? hq0)
      refine ⟨.ref Wk, rfl, Wk, C, dxw, _, _, rfl, ob4, T.cl, T.nM, wF_met _ _ _, .int _, rfl, M, _, _, .ref (ts[cu]).2, rfl, rfl, .inl (.inl hw4.met), atI_nat (by rw [List.getElem?_map, List.getElem?_eq_getElem hti]; rfl), ?_⟩
      generalize (ts[cu]).2 = cb at ecb
      refine ⟨cb, [.ref A, .ref B], rfl, .inl (.inl ecb), rfl, .ref A, [.ref B], rfl, .ref B, [], rfl, rfl, ?_⟩
      have rowT1 : RowAt H4 R1 m1 ds1 o1 := (Same.tups (s1.trans s4)).row hr1
      have rowT2 : RowAt H4 R2 m1 ds2 o2 := (Same.tups (s1.trans s4)).row hr2
      refine ⟨.ref D1, rfl, .ref R1, rfl, .ref A, rfl, D1, R1, A, m1, o1, ds1, q0.1, es1, rfl, eD14, kp1, rowT1, ok1, eA, pq.l1, pq.b1, fun H5 p1 ps1 es1' bt1 eD15 kp15 sub1 new1 mem1 ep1 st1 => ?_⟩
      have t45 : TupsStay H4 H5 := fun b xs e => bt1 b _ (ne_of e eD14 (fun z => nomatch z)) e
      have kp25 : Kept H5 m1 ds2 o2 es2 := ⟨kp2.nd, kp2.bits, fun e he => by
        obtain ⟨pp, h1, h2⟩ := kp2.each e he
        exact ⟨pp, bt1 _ _ (ne_of h1 eD14 (fun z => nomatch z)) h1, stat_stay t45 h2⟩⟩
      refine ⟨.ref D2, rfl, .ref R2, rfl, .ref B, rfl, D2, R2, B, m1, o2, ds2, q0.2, es2, rfl, bt1 _ _ n12.symm eD24, kp25, t45.row rowT2, ok2, t45 _ _ eB, pq.l2, pq.b2, fun H6 p2 ps2 es2' bt2 eD26 kp26 sub2 new2 mem2 ep2 st2 => ?_⟩
      have eD25 := bt1 _ _ n12.symm eD24
      have t56 : TupsStay H5 H6 := fun b xs e => bt2 b _ (ne_of e eD25 (fun z => nomatch z)) e
      have kp16 : Kept H6 m1 ds1 o1 es1' := ⟨kp15.nd, kp15.bits, fun e he => by
        obtain ⟨pp, h1, h2⟩ := kp15.each e he
        exact ⟨pp, bt2 _ _ (ne_of h1 eD25 (fun z => nomatch z)) h1, stat_stay t56 h2⟩⟩
      have ep16 : H6 p1 = some (.lst (ps1.map V.ref)) := bt2 _ _ (ne_of ep1 eD25 (fun z => nomatch z)) ep1
      refine ⟨p1, p2, _, _, rfl, ⟨ps1, ep16, stat_stay t56 st1⟩, ⟨ps2, ep2, st2⟩, by rw [stp_len, stp_len], by rw [stp_len]; exact p8, fun H7 Bo bo s7 nBo eBo hbo => ?_⟩
      have zl : ((stp m1 ds1 o1 q0.1).zip (stp m1 ds2 o2 q0.2)).length = 2 ^ m1 := by rw [List.length_zip, stp_len, stp_len, Nat.min_self]
      have zsl : bo.length = 2 ^ m1 := by rw [awLen hbo, zl]
      have k46 : ∀ b u, b ≠ D1 → b ≠ D2 → H4 b = some u → H6 b = some u := fun b u n1 n2 e => bt2 b u n2 (bt1 b u n1 e)
      have k47 : ∀ b u, b ≠ D1 → b ≠ D2 → H4 b = some u → H7 b = some u := fun b u n1 n2 e => s7 b u (k46 b u n1 n2 e)
      have t47 : TupsStay H4 H7 := fun b xs e => k47 b _ (ne_of e eD14 (fun z => nomatch z)) (ne_of e eD24 (fun z => nomatch z)) e
      obtain ⟨ws4, eW4, _⟩ := id hw4.ways
      have hw7 : WalkAt P w C H7 Wk M N W ts wy := hw4.stay t47 fun c u hc e => by
        rcases hc with rfl | rfl | rfl | rfl
        · exact k47 _ _ (ne_of ob4 eD14 (fun z => nomatch z)) (ne_of ob4 eD24 (fun z => nomatch z)) e
        · exact k47 _ _ nD1M.symm nD2M.symm e
        · exact k47 _ _ nD1N.symm nD2N.symm e
        · exact k47 _ _ nD1W.symm nD2W.symm e
      have s17 : Same H1 H7 := fun b u e => k47 b u (ne_of_none e nD1) (ne_of_none e nD2) (s4 b u e)
      have eD17 : H7 D1 = some (.dT (emb V.ref es1')) := s7 _ _ (bt2 _ _ n12 eD15)
      have eD27 : H7 D2 = some (.dT (emb V.ref es2')) := s7 _ _ eD26
      have nBM : Bo ≠ M := fun z => by rw [z, k46 _ _ nD1M.symm nD2M.symm hw4.met] at nBo; cases nBo
      have nBN : Bo ≠ N := fun z => by rw [z, k46 _ _ nD1N.symm nD2N.symm hw4.num.ob] at nBo; cases nBo
      have nBW : Bo ≠ W := fun z => by rw [z, k46 _ _ nD1W.symm nD2W.symm eW4] at nBo; cases nBo
      have ne1' : ∀ e ∈ es1', e.2 ≠ M ∧ e.2 ≠ W := fun e he => by
        rcases new1 e he with h | h
        · exact ne1 e h
        · exact ⟨(fun z => by rw [z, hw4.met] at h; cases h), (fun z => by rw [z, eW4] at h; cases h)⟩
      have ne2' : ∀ e ∈ es2', e.2 ≠ M ∧ e.2 ≠ W := fun e he => by
        rcases new2 e he with h | h
        · exact ne2 e h
        · exact ⟨(fun z => by rw [z, bt1 _ _ nD1M.symm hw4.met] at h; cases h), (fun z => by rw [z, bt1 _ _ nD1W.symm eW4] at h; cases h)⟩
      have eCh7 := s17 _ _ eCh
      have nChM : Ch ≠ M := ne_of_none (sD _ _ eCh) hM2
      have nChN : Ch ≠ N := ne_of_none (sD _ _ eCh) hN2
      have nChW : Ch ≠ W := ne_of_none (sD _ _ eCh) hW2
      refine ⟨.ref Ch, rfl, .ref Bo, rfl, Ch, Bo, _, _, rfl, .inl (.inl eCh7), .inl (.inl eBo), for_it (walk_zip (K := K) (a := Ch) (b := Bo) (xs := fs.map V.ref) (ys := bo.map V.ref) (n := 2 ^ m1) (by rw [List.length_map, List.length_map, fl, zsl, Nat.min_self])) (fun j σ H8 => ∃ y10 y11 y12 y13 ps' ts' wy', σ = [some (.ref R1), some (.ref R2), some (.ref Ch), some (.ref D1), some (.ref D2), some (.ref Wk), some (.int ((cu : Nat) : Int)), some (.ref A), some (.ref B), some (.ref Bo), y10, y11, y12, y13, y14] ∧ WalkAt P w C H8 Wk M N W ts' wy' ∧ ts'.map (·.1) = ps'.map kQ ∧ BfsP m1 ds1 o1 ds2 o2 ps' wy' cu j q0 ∧ (∀ q ∈ ps', PcOk ds1 ds2 q) ∧ ∀ b u, b ≠ M → b ≠ N → b ≠ W → H7 b = some u → H8 b = some u)
        ⟨y10, y11, y12, y13, ps, ts, wy, rfl, hw7, ek, ⟨hB, hq0, fun j hj => hnear j lt hj, (fun _ z => by rw [List.take_zero] at z; cases z)⟩, gd, fun _ _ _ _ _ z => z⟩ (fun j σ H8 _ hp => ?_) (fun j x σ H8 H9 hj hp hy => ?_) (fun σ H8 hp => ?_)⟩
      · obtain ⟨_, _, _, _, _, _, _, _, _, _, _, _, st⟩ := hp
        exact ⟨.inl (.inl (st _ _ nChM nChN nChW eCh7)), .inl (.inl (st _ _ nBM nBN nBW eBo))⟩
      · obtain ⟨y10, y11, y12, y13, ps', ts', wy', rfl, hw8, ek8, hBP, gd8, st⟩ := hp
        obtain ⟨U, x1, x2, rfl, hU, rfl, gg1, gg2⟩ := hy
        have tup7 : ∀ b xs, H7 b = some (.tup xs) → H8 b = some (.tup xs) := fun b xs e => st b _ (ne_of e hw7.met (fun y => nomatch y)) (ne_of e hw7.num.ob (fun y => nomatch y)) (by obtain ⟨ws, e2, _⟩ := hw7.ways; exact ne_of e e2 (fun y => nomatch y)) e
        have hjf : j < fs.length := by omega
        have hjp : j < bo.length := by omega
        have e1 : x1 = .ref fs[j] := by
          have g1' : (fs.map V.ref)[j]? = some x1 := gg1
          rw [List.getElem?_map, List.getElem?_eq_getElem hjf] at g1'
          exact (Option.some.inj g1').symm
        have e2 : x2 = .ref bo[j] := by
          have g2' : (bo.map V.ref)[j]? = some x2 := gg2
          rw [List.getElem?_map, List.getElem?_eq_getElem hjp] at g2'
          exact (Option.some.inj g2').symm
        subst e1 e2
        obtain ⟨bs, hb1, hb2⟩ := awGet hf (List.getElem?_eq_getElem hjf)
        obtain ⟨be, hs1, ac, c1, c2, hs2, hs3, hs4, hs5⟩ := awGet hbo (List.getElem?_eq_getElem hjp)
        obtain rfl := zip_stp hs1 hb1
        have sU := same_new (o := .tup [.ref fs[j], .ref bo[j]]) hU
        have eb9 := sU _ _ (tup7 _ _ (s17 _ _ hb2))
        have e29 := sU _ _ (tup7 _ _ hs2)
        have e39 := sU _ _ (tup7 _ _ hs3)
        have e49 := sU _ _ (tup7 _ _ hs4)
        have e59 := sU _ _ (tup7 _ _ hs5)
        refine ⟨U, [.ref fs[j], .ref bo[j]], rfl, .inl (.inl upd_same), rfl, .ref fs[j], [.ref bo[j]], rfl, .ref bo[j], [], rfl, bo[j], [.int (ob ds1 o1 q0.1 bs), .int (ob ds2 o2 q0.2 bs), .ref ac], rfl, .inl (.inl e29), rfl, .int (ob ds1 o1 q0.1 bs), [.int (ob ds2 o2 q0.2 bs), .ref ac], rfl, .int (ob ds2 o2 q0.2 bs), [.ref ac], rfl, .ref ac, [], rfl, rfl, rfl, ?_⟩
        obtain ⟨dx8, ob8⟩ := hw8.ob
        have hw9 := hw8.same sU
        have l8 := keys_lenP ek8
        have few8 := few_pairs (keys_ndP hw8.nd ek8) gd8 l81 l82
        have wl := hBP.bfs.len
        have hb' : bs ∈ allB m1 := List.mem_of_getElem? hb1
        have hcl := (List.getElem?_eq_some_iff.mp hBP.here).1
        refine ⟨.int (ob ds1 o1 q0.1 bs), rfl, .int (ob ds2 o2 q0.2 bs), rfl, ⟨rfl, _, rfl, ite2 (fun hne => ?_) (fun heq => ?_)⟩⟩
        · have hne' := neT hne
          refine ⟨.ref Wk, rfl, Wk, dx8, _, rfl, sU _ _ ob8, wF_no _ _ _ (by decide +kernel) (by decide +kernel) (by decide +kernel), .int (cu : Int), rfl, Wk, M, N, W, ts', wy', cu, rfl, hw9, by omega, by omega, hBP.bfs.ways, fun Hx L bl sx nL eL hbl => ?_⟩
          have pl := pth_le wy' cu cu
          have plE : (path wy' cu).length ≤ cu := pl
          have bll := awLen hbl
          refine ⟨.ref fs[j], rfl, (by show 1 ≤ sizeLine; decide), fun L2' hL2 => ?_⟩
          have sL2 := same_new (o := .lst [.ref fs[j]]) hL2
          refine ⟨L, L2', _, _, rfl, rfl, sL2 _ _ eL, upd_same, ?_, fun Cc hCc => ?_⟩
          · rw [List.length_map, sizeLine_eq]
            show bl.length + 1 ≤ _
            omega
          have sCc := same_new (o := .lst (bl.map V.ref ++ [V.ref fs[j]])) hCc
          obtain ⟨Hy, hHy⟩ : ∃ Hy, Hy = upd (upd Hx L2' (.lst [.ref fs[j]])) Cc (.lst (bl.map V.ref ++ [V.ref fs[j]])) := ⟨_, rfl⟩
          have eCc : Hy Cc = some (.lst ((bl ++ [fs[j]]).map V.ref)) := by
            rw [hHy, upd_same, List.map_append]
            rfl
          have s9y : Same (upd H8 U (.tup [.ref fs[j], .ref bo[j]])) Hy := by
            rw [hHy]
            exact sx.trans (sL2.trans sCc)
          have sxy : Same Hx Hy := by
            rw [hHy]
            exact sL2.trans sCc
          rw [← hHy]
          have tat : TAt Hy (bl ++ [fs[j]]) (path wy' cu ++ [bs]) := awSnoc (F := fun (f : Addr) (b : List Int) => Hy f = some (.tup (b.map V.int))) (s9y _ _ eb9) (tat_stay (Same.tups sxy) hbl)
          have tl := awLen tat
          obtain ⟨hall, _⟩ := bfs_apart hBP.bfs hBP.here ok1 ok2 hb' hne'
          have kH : ∀ b u, b ≠ M → b ≠ N → b ≠ W → H7 b = some u → Hy b = some u := fun b u n1 n2 n3 e => s9y _ _ (sU _ _ (st b u n1 n2 n3 e))
          have s1y : Same H1 Hy := fun b u e => kH b u (ne_of_none (sD _ _ e) hM2) (ne_of_none (sD _ _ e) hN2) (ne_of_none (sD _ _ e) hW2) (s17 _ _ e)
          refine ⟨.ref Cc, rfl, Cc, _, rfl, .inl (.inl (.inl eCc)), .ref R1, rfl, R1, _, 0, .int m1, rfl, rfl, SqT.of (s1y _ _ (s1 _ _ eR1)), rfl, .ref Cc, rfl, m1, Cc, bl ++ [fs[j]], _, rfl, by omega, eCc, tat, ?_, hall, fun Hz Lw sz nLw eLw => ?_⟩
          · rw [List.length_append]
            show _ + 1 ≤ _
            omega
          refine ⟨(by show 3 ≤ sizeLine; decide), fun Tt hTt => ?_⟩
          have sT := same_new (o := .tup [.str "apart", .int (((bl ++ [fs[j]]).map V.ref).length : Nat), .ref Lw]) hTt
          have s0z : Same H Hz := s1.trans (s1y.trans sz)
          refine qB _ Tt Lw ps' wy' cu q0 bs (s0z.trans sT) (s0z.free hTt) ((s1.trans s1y).free nLw) ?_ (sT _ _ eLw) hBP.bfs hBP.here hb' hne' few8 (by omega)
          rw [upd_same, List.length_map, tl]
        · have heq' := neF heq
          have pac : PrC (upd H8 U (.tup [.ref fs[j], .ref bo[j]])) ac (nx2 ds1 ds2 q0 bs) := ⟨c1, c2, e39, e49, e59⟩
          refine ⟨.ref Wk, rfl, Wk, dx8, _, rfl, sU _ _ ob8, wF_meet _ _ _, .ref ac, rfl, .int (cu : Int), rfl, .ref fs[j], rfl, Wk, M, N, W, ac, fs[j], ts', wy', kQ (nx2 ds1 ds2 q0 bs), (cu : Int), bs, rfl, hw9, keyP pac, eb9, by omega, fun Hx ts2 wy2 ix hwx hix hcase kpx => ?_⟩
          obtain ⟨b', hb2'⟩ := hix
          have hst : ∀ b u, b ≠ M → b ≠ N → b ≠ W → H7 b = some u → Hx b = some u := fun b u n1 n2 n3 e => kpx b u n1 n2 n3 (sU _ _ (st b u n1 n2 n3 e))
          rcases hcase with ⟨rfl, rfl⟩ | ⟨rfl, rfl, rfl, _⟩
          · obtain ⟨c, hc, ec⟩ := keys_atP ek8 hb2'
            rw [← kQ_inj ec] at hc
            exact ⟨_, _, _, _, ps', _, _, rfl, hwx, ek8, bfsp_old hBP hb1 heq' hc, gd8, hst⟩
          · refine ⟨_, _, _, _, ps' ++ [nx2 ds1 ds2 q0 bs], _, _, rfl, hwx, by rw [List.map_append, List.map_append, ek8]; rfl, bfsp_new hBP hb1 heq', fun c hc => ?_, hst⟩
            rcases List.mem_append.mp hc with hc | hc
            · exact gd8 c hc
            · rw [List.mem_singleton.mp hc]
              exact nx2_ok pq hb'
      · obtain ⟨y10, y11, y12, y13, ps', ts', wy', rfl, hw8, ek8, hBP, gd8, st⟩ := hp
        rw [← allB_len m1] at hBP
        obtain ⟨hB', near'⟩ := bfsp_done hBP
        have hcl := (List.getElem?_eq_some_iff.mp hBP.here).1
        have tup7 : TupsStay H7 H8 := fun b xs e => st b _ (ne_of e hw7.met (fun y => nomatch y)) (ne_of e hw7.num.ob (fun y => nomatch y)) (by obtain ⟨ws, e2, _⟩ := hw7.ways; exact ne_of e e2 (fun y => nomatch y)) e
        have kk : ∀ {ds : List Deed} {o : Int} {es : List (List Int × Addr)}, Kept H6 m1 ds o es → (∀ e ∈ es, e.2 ≠ M ∧ e.2 ≠ W) → Kept H8 m1 ds o es := fun {ds o es} kp ne => ⟨kp.nd, kp.bits, fun e he => by
          obtain ⟨pp, h1, h2⟩ := kp.each e he
          have h17 := s7 _ _ h1
          exact ⟨pp, st _ _ (ne e he).1 (ne_of h17 hw7.num.ob (fun z => nomatch z)) (ne e he).2 h17, stat_stay tup7 (stat_stay (Same.tups s7) h2)⟩⟩
        refine ⟨.int (cu : Int), rfl, _, _, rfl, rfl, 65537 - (cu + 1), ?_, _, _, _, _, _, _, _, _, ps', ts', wy', es1', es2', cu + 1, rfl, hw8, ek8, hB', fun j h1 h2 => near' j h1 h2, gd8, by omega, st _ _ nD1M nD1N nD1W eD17, kk kp16 ne1', ne1', st _ _ nD2M nD2N nD2W eD27, kk kp26 ne2', ne2', fun b u e => st b u (ne_of_none (sD _ _ e) hM2) (ne_of_none (sD _ _ e) hN2) (ne_of_none (sD _ _ e) hW2) (s17 _ _ e), rfl⟩
        have := few_pairs (keys_ndP hw8.nd ek8) gd8 l81 l82
        omega
    · have nlt : ¬ cu < ps.length := fun z => e (by
        apply decide_eq_true
        rw [List.length_map]
        omega)
      obtain rfl : cu = ps.length := by omega
      refine ⟨.ref Wk, rfl, Wk, C, dxw, _, _, rfl, ob4, T.cl, T.nM, wF_met _ _ _, (by show 2 ≤ sizeLine; decide), fun Tt hTt => ?_⟩
      have sT := same_new (o := .tup [.str "alike", .ref M]) hTt
      have s04 := s1.trans s4
      refine qA _ Tt M (ts.map (·.2)) ps wy (s04.trans sT) (s04.free hTt) hM0 upd_same ?_ (ptat_stay (Same.tups sT) (walk_pt hw4 ek)) hB (keys_ndP hw4.nd ek) gd
      have := sT _ _ hw4.met
      rw [this, List.map_map]
      rfl
def RtS (m : Nat) (ds1 ds2 : List Deed) : Nat → PC → Prop
  | 0, q => q = (ds1.map fcD, ds2.map fcD)
  | t + 1, q => ∃ q0 bs, RtS m ds1 ds2 t q0 ∧ bs ∈ allB m ∧ q = nx2 ds1 ds2 q0 bs
/-- some pair that comes in so many steps parts the outs -/
def PrtS (m : Nat) (ds1 : List Deed) (o1 : Int) (ds2 : List Deed) (o2 : Int) (t : Nat) : Prop := ∃ q bs, RtS m ds1 ds2 t q ∧ bs ∈ allB m ∧ ¬ ob ds1 o1 q.1 bs = ob ds2 o2 q.2 bs
theorem bfs_never {m : Nat} {ds1 ds2 : List Deed} {o1 o2 : Int} {ps : List PC} {wy : List (Int × List Int)} (h : Bfs m ds1 o1 ds2 o2 ps wy ps.length) (t : Nat) : ¬ PrtS m ds1 o1 ds2 o2 t := by
  have all : ∀ (t : Nat) q, RtS m ds1 ds2 t q → q ∈ ps := by
    intro t
    induction t with
    | zero =>
      intro q hq
      have hq' : q = _ := hq
      rw [hq']
      exact List.mem_of_getElem? h.first
    | succ t ih =>
      rintro q ⟨q0, bs, h0, hb, rfl⟩
      obtain ⟨i, hi⟩ := List.mem_iff_getElem?.mp (ih q0 h0)
      obtain ⟨_, i', hi', _⟩ := h.done i q0 (List.getElem?_eq_some_iff.mp hi).1 hi bs hb
      exact List.mem_of_getElem? hi'
  rintro ⟨q, bs, hq, hb, hne⟩
  obtain ⟨i, hi⟩ := List.mem_iff_getElem?.mp (all t q hq)
  exact hne (h.done i q (List.getElem?_eq_some_iff.mp hi).1 hi bs hb).1
theorem rtS_crry {m : Nat} {ds1 ds2 : List Deed} {xs : List Int} (hm : xs.length = m) : ∀ t, RtS m ds1 ds2 t (crry ds1 xs t, crry ds2 xs t)
  | 0 => rfl
  | t + 1 => ⟨(crry ds1 xs t, crry ds2 xs t), xs.map (bitA t), rtS_crry hm t, cols_in hm t, rfl⟩
/-- where no pair that comes in less than so many steps parts the outs the worths are one -/
theorem same_worth {m n : Nat} {ds1 ds2 : List Deed} {o1 o2 : Int} {xs : List Int} (ok1 : RowOk m ds1 o1) (ok2 : RowOk m ds2 o2) (nv : ∀ t, t < n → ¬ PrtS m ds1 o1 ds2 o2 t) (hm : xs.length = m) (hx : ∀ x ∈ xs, 0 ≤ x ∧ x < 2 ^ n) :
    (vals (2 ^ n) ds1 xs).getD o1.toNat 0 = (vals (2 ^ n) ds2 xs).getD o2.toNat 0 := by
  have e := bits_eq (v := (vals (2 ^ n) ds1 xs).getD o1.toNat 0) (u := (vals (2 ^ n) ds2 xs).getD o2.toNat 0) n fun t ht => by
    rw [← ob_bit ok1 hm hx ht, ← ob_bit ok2 hm hx ht]
    false_or_by_contra
    rename_i ne
    exact nv t ht ⟨_, xs.map (bitA t), rtS_crry hm t, cols_in hm t, ne⟩
  rwa [wr_range ok1 hm hx, wr_range ok2 hm hx] at e
def KdS (cs : List (List Int)) (ns : List Nat) (c : List Int) (k : Nat) : Prop := ∃ i : Nat, cs[i]? = some c ∧ ns[i]? = some k
structure Mch (m : Nat) (ds : List Deed) (o : Int) (cs : List (List Int)) (mac : List MRow) (ns : List Nat) (lm : List MRow) : Prop where
  wm : WM m ds o cs mac
  hl : mac.length = cs.length
  kk : KOk mac ns
  li : LInv mac ns lm ns.length
theorem awLeft {α β γ : Type} {F : γ → β → Prop} {g : α → γ} : ∀ {l : List α} {l2 : List β}, Paired (fun a b => F (g a) b) l l2 → Paired F (l.map g) l2
  | _, _, .nil => .nil
  | _, _, .cons h t => .cons h (awLeft t)
section canon
variable {m : Nat} {ds ds1 ds2 : List Deed} {o o1 o2 : Int} {cs cs1 cs2 : List (List Int)} {mac mac1 mac2 : List MRow} {ns ns1 ns2 : List Nat} {lm lm1 lm2 : List MRow}
theorem Mch.ex (M : Mch m ds o cs mac ns lm) {c : List Int} (h : c ∈ cs) : ∃ k, KdS cs ns c k := by
  obtain ⟨i, hi⟩ := List.mem_iff_getElem?.mp h
  have hl := M.hl
  have kl := M.kk.len
  have il := (List.getElem?_eq_some_iff.mp hi).1
  exact ⟨ns[i]'(by omega), i, hi, List.getElem?_eq_getElem (by omega)⟩
theorem Mch.first (M : Mch m ds o cs mac ns lm) : KdS cs ns (ds.map fcD) 0 := by
  have hl := M.hl
  have kl := M.kk.len
  have pos := (List.getElem?_eq_some_iff.mp M.wm.first).1
  refine ⟨0, M.wm.first, ?_⟩
  have h0 : ns[0]? = some (ns[0]'(by omega)) := List.getElem?_eq_getElem (by omega)
  have := rg_le M.kk.rg _ _ h0
  rw [h0]
  congr 1
  omega
theorem Mch.row (M : Mch m ds o cs mac ns lm) {c : List Int} {k : Nat} (h : KdS cs ns c k) : Paired (fun (e : Int × Nat) (s : Int × List Int) => e.1 = s.1 ∧ KdS cs ns s.2 e.2) (nxK mac ns k) (stp m ds o c) := by
  obtain ⟨i, a, b⟩ := h
  have hl := M.hl
  have kl := M.kk.len
  have il := (List.getElem?_eq_some_iff.mp a).1
  have er : mac[i]? = some (mac[i]'(by omega)) := List.getElem?_eq_getElem (by omega)
  rw [nxK_at M.kk b er]
  obtain ⟨c', w1, w2⟩ := M.wm.each i _ er
  rw [a] at w1
  obtain rfl := Option.some.inj w1
  refine awLeft (awMap (fun e s z => ?_) w2)
  obtain ⟨z1, j, z2, z3⟩ := z
  have jl := (List.getElem?_eq_some_iff.mp z3).1
  refine ⟨z1, j, z3, ?_⟩
  show ns[j]? = some (ns.getD e.2.toNat 0)
  rw [z2, Int.toNat_natCast, List.getD_eq_getElem?_getD, List.getElem?_eq_getElem (show j < ns.length by omega)]
  rfl
theorem Mch.lt (M : Mch m ds o cs mac ns lm) {c : List Int} {k : Nat} (h : KdS cs ns c k) : k < lm.length := by
  obtain ⟨i, a, b⟩ := h
  exact (linv_mem M.li k).mpr (List.mem_of_getElem? b)
theorem Mch.surj (M : Mch m ds o cs mac ns lm) {k : Nat} (h : k < lm.length) : ∃ c, c ∈ cs ∧ KdS cs ns c k := by
  obtain ⟨i, hi⟩ := List.mem_iff_getElem?.mp ((linv_mem M.li k).mp h)
  have hl := M.hl
  have kl := M.kk.len
  have il := (List.getElem?_eq_some_iff.mp hi).1
  exact ⟨cs[i]'(by omega), List.getElem_mem _, i, List.getElem?_eq_getElem (by omega), hi⟩
theorem Mch.pos (M : Mch m ds o cs mac ns lm) : 0 < lm.length := M.lt M.first
theorem Mch.at (M : Mch m ds o cs mac ns lm) {c bs : List Int} {k t : Nat} (h : KdS cs ns c k) (ht : (allB m)[t]? = some bs) : ∃ k', (nxK mac ns k)[t]? = some (ob ds o c bs, k') ∧ KdS cs ns (nc ds c bs) k' := by
  have es : (stp m ds o c)[t]? = some (ob ds o c bs, nc ds c bs) := by
    unfold stp
    rw [List.getElem?_map, ht]
    rfl
  obtain ⟨⟨b, k'⟩, e1, e2, e3⟩ := awGet2 (M.row h) es
  have e2' : b = ob ds o c bs := e2
  exact ⟨k', by rw [e1, e2'], e3⟩
theorem Mch.len (M : Mch m ds o cs mac ns lm) {c : List Int} {k : Nat} (h : KdS cs ns c k) : (nxK mac ns k).length = (allB m).length := by
  rw [awLen (M.row h)]
  exact List.length_map ..
abbrev Rc (m : Nat) (ds1 ds2 : List Deed) (q : PC) : Prop := ∃ t, RtS m ds1 ds2 t q
theorem rc_first : Rc m ds1 ds2 (ds1.map fcD, ds2.map fcD) := ⟨0, rfl⟩
theorem rc_next {q : PC} {bs : List Int} (h : Rc m ds1 ds2 q) (hb : bs ∈ allB m) : Rc m ds1 ds2 (nc ds1 q.1 bs, nc ds2 q.2 bs) := by
  obtain ⟨t, h⟩ := h
  exact ⟨t + 1, q, bs, h, hb, rfl⟩
/-- each carry comes, with another one beside it -/
theorem Mch.beside (M : Mch m ds2 o2 cs mac ns lm) {c : List Int} (h : c ∈ cs) : ∃ c1, Rc m ds1 ds2 (c1, c) := by
  obtain ⟨i, hi⟩ := List.mem_iff_getElem?.mp h
  have key : ∀ n : Nat, ∀ i c, i ≤ n → cs[i]? = some c → ∃ c1, Rc m ds1 ds2 (c1, c) := by
    intro n
    induction n with
    | zero =>
      intro i c hi e
      obtain rfl : i = 0 := by omega
      rw [M.wm.first] at e
      obtain rfl := Option.some.inj e
      exact ⟨ds1.map fcD, rc_first⟩
    | succ n ih =>
      intro i c hi e
      by_cases h0 : i = 0
      · subst h0
        rw [M.wm.first] at e
        obtain rfl := Option.some.inj e
        exact ⟨ds1.map fcD, rc_first⟩
      · obtain ⟨p, t, a, s, hp, ha, hs, rfl, _⟩ := M.wm.fo i c (by omega) e
        obtain ⟨c1, r⟩ := ih p a (by omega) ha
        unfold stp at hs
        rw [List.getElem?_map] at hs
        obtain ⟨bs, hb, rfl⟩ := Option.map_eq_some_iff.mp hs
        exact ⟨nc ds1 c1 bs, rc_next (q := (c1, a)) r (List.mem_of_getElem? hb)⟩
  exact key i i c (Nat.le_refl i) hi
/-- rows with one least machine are alike -/
theorem Mch.alike (M1 : Mch m ds1 o1 cs1 mac1 ns1 lm) (M2 : Mch m ds2 o2 cs2 mac2 ns2 lm) (t : Nat) : ¬ PrtS m ds1 o1 ds2 o2 t := by
  have eqk : ∀ k, k < lm.length → nxK mac1 ns1 k = nxK mac2 ns2 k := fun k hk => by
    have e1 := linv_row M1.li M1.kk (List.getElem?_eq_getElem hk)
    have e2 := linv_row M2.li M2.kk (List.getElem?_eq_getElem hk)
    rw [e1] at e2
    refine List.ext_getElem? fun i => ?_
    have e3 := congrArg (fun l : MRow => l[i]?) e2
    simp only [List.getElem?_map] at e3
    cases h1 : (nxK mac1 ns1 k)[i]? with
    | none =>
      rw [h1] at e3
      cases h2 : (nxK mac2 ns2 k)[i]? with
      | none => rfl
      | some y => rw [h2] at e3; cases e3
    | some x =>
      rw [h1] at e3
      cases h2 : (nxK mac2 ns2 k)[i]? with
      | none => rw [h2] at e3; cases e3
      | some y =>
        rw [h2] at e3
        have e4 := Prod.mk.inj (Option.some.inj e3)
        exact congrArg some (Prod.ext e4.1 (Int.ofNat.inj e4.2))
  have both : ∀ t q, RtS m ds1 ds2 t q → ∃ k, KdS cs1 ns1 q.1 k ∧ KdS cs2 ns2 q.2 k := by
    intro t
    induction t with
    | zero =>
      intro q h
      have h' : q = _ := h
      rw [h']
      exact ⟨0, M1.first, M2.first⟩
    | succ t ih =>
      rintro q ⟨q0, bs, h0, hb, rfl⟩
      obtain ⟨k, a, b⟩ := ih q0 h0
      obtain ⟨j, hj⟩ := List.mem_iff_getElem?.mp hb
      obtain ⟨k1, g1, g2⟩ := M1.at a hj
      obtain ⟨k2, g1', g2'⟩ := M2.at b hj
      rw [eqk k (M1.lt a), g1'] at g1
      obtain ⟨_, rfl⟩ := Prod.mk.inj (Option.some.inj g1)
      exact ⟨k2, g2, g2'⟩
  rintro ⟨q, bs, hq, hb, ne⟩
  obtain ⟨k, a, b⟩ := both t q hq
  obtain ⟨j, hj⟩ := List.mem_iff_getElem?.mp hb
  obtain ⟨k1, g1, g2⟩ := M1.at a hj
  obtain ⟨k2, g1', g2'⟩ := M2.at b hj
  rw [eqk k (M1.lt a), g1'] at g1
  exact ne (Prod.mk.inj (Option.some.inj g1)).1.symm
theorem lm_mch (h : LmOk m ds o lm) : ∃ cs mac ns, Mch m ds o cs mac ns lm := by
  obtain ⟨cs, mac, ns, a, b, c, d⟩ := h.src
  exact ⟨cs, mac, ns, a, b, c, d⟩
end canon
structure BfsG {S : Type} (m : Nat) (nx : S → List Int → S) (gd : S → List Int → Prop) (s0 : S) (ps : List S) (wy : List (Int × List Int)) (cu : Nat) : Prop where
  first : ps[0]? = some s0
  ways : WayOk wy
  len : wy.length = ps.length
  link : ∀ (j : Nat) e, wy[j]? = some e → 0 < j → e.2 ∈ allB m ∧ ∃ q, ps[e.1.toNat]? = some q ∧ ps[j]? = some (nx q e.2)
  done : ∀ (i : Nat) q, i < cu → ps[i]? = some q → ∀ bs ∈ allB m, gd q bs ∧ ∃ i' : Nat, ps[i']? = some (nx q bs) ∧ dep wy i' ≤ dep wy i + 1
  mono : ∀ i j : Nat, i ≤ j → j < ps.length → dep wy i ≤ dep wy j
theorem bfs_pathG {m : Nat} {S : Type} {nx : S → List Int → S} {gd : S → List Int → Prop} {s0 : S} {ps : List S} {wy : List (Int × List Int)} {cu : Nat} (h : BfsG m nx gd s0 ps wy cu) : ∀ (n i : Nat) q, i ≤ n → ps[i]? = some q → (∀ b ∈ path wy i, b ∈ allB m) ∧ q = (path wy i).foldl nx s0
  | n, 0, q, _, hq => by
    rw [h.first] at hq
    obtain rfl := Option.some.inj hq
    exact ⟨(fun _ z => nomatch z), rfl⟩
  | 0, i + 1, q, hi, _ => by omega
  | n + 1, i + 1, q, hi, hq => by
    have hl : i + 1 < wy.length := by
      rw [h.len]
      exact (List.getElem?_eq_some_iff.mp hq).1
    have he : wy[i + 1]? = some wy[i + 1] := List.getElem?_eq_getElem hl
    obtain ⟨hb, q0, hq0, hq1⟩ := h.link _ _ he (by omega)
    have wk := h.ways _ _ he (by omega)
    obtain ⟨ih1, ih2⟩ := bfs_pathG h n wy[i + 1].1.toNat q0 (by omega) hq0
    rw [hq] at hq1
    obtain rfl := Option.some.inj hq1
    rw [path_next h.ways (by omega) he]
    refine ⟨fun b hb' => ?_, ?_⟩
    · rcases List.mem_append.mp hb' with z | z
      · exact ih1 b z
      · rw [List.mem_singleton.mp z]
        exact hb
    · rw [List.foldl_append, ← ih2]
      rfl
/-- the current one is being looked at, by the first so many bits -/
structure BfsPG {S : Type} (m : Nat) (nx : S → List Int → S) (gd : S → List Int → Prop) (s0 : S) (ps : List S) (wy : List (Int × List Int)) (cu k : Nat) (q : S) : Prop where
  bfs : BfsG m nx gd s0 ps wy cu
  here : ps[cu]? = some q
  near : ∀ j : Nat, j < ps.length → dep wy j ≤ dep wy cu + 1
  some : ∀ bs ∈ (allB m).take k, gd q bs ∧ ∃ i' : Nat, ps[i']? = some (nx q bs) ∧ dep wy i' ≤ dep wy cu + 1
theorem bfsp_oldG {m : Nat} {S : Type} {nx : S → List Int → S} {gd : S → List Int → Prop} {s0 : S} {ps : List S} {wy : List (Int × List Int)} {cu k : Nat} {q : S} {bs : List Int} (h : BfsPG m nx gd s0 ps wy cu k q) (hb : (allB m)[k]? = some bs) (he : gd q bs) {i : Nat} (hi : ps[i]? = some (nx q bs)) : BfsPG m nx gd s0 ps wy cu (k + 1) q := by
  refine ⟨h.bfs, h.here, h.near, fun b hb' => ?_⟩
  rw [List.take_add_one, hb] at hb'
  rcases List.mem_append.mp hb' with z | z
  · exact h.some b z
  · obtain rfl : b = bs := by simpa using z
    exact ⟨he, i, hi, h.near i (List.getElem?_eq_some_iff.mp hi).1⟩
theorem bfsp_newG {m : Nat} {S : Type} {nx : S → List Int → S} {gd : S → List Int → Prop} {s0 : S} {ps : List S} {wy : List (Int × List Int)} {cu k : Nat} {q : S} {bs : List Int} (h : BfsPG m nx gd s0 ps wy cu k q) (hb : (allB m)[k]? = some bs) (he : gd q bs) : BfsPG m nx gd s0 (ps ++ [nx q bs]) (wy ++ [((cu : Int), bs)]) cu (k + 1) q := by
  have hB := h.bfs
  have hc := (List.getElem?_eq_some_iff.mp h.here).1
  have hl := hB.len
  have old : ∀ {j : Nat}, j < ps.length → dep (wy ++ [((cu : Int), bs)]) j = dep wy j := fun {j} hj => dep_app hB.ways _ (by omega)
  have wok : WayOk (wy ++ [((cu : Int), bs)]) := fun j e hj h0 => by
    by_cases hlt : j < wy.length
    · rw [List.getElem?_append_left hlt] at hj
      exact hB.ways j e hj h0
    · rw [List.getElem?_append_right (by omega)] at hj
      have hj1 := (List.getElem?_eq_some_iff.mp hj).1
      have e0 : j - wy.length = 0 := by simp only [List.length_cons, List.length_nil] at hj1; omega
      rw [e0] at hj
      obtain rfl : ((cu : Int), bs) = e := Option.some.inj hj
      show (0 : Int) ≤ (cu : Int) ∧ (cu : Int) < (j : Int)
      omega
  have last : (wy ++ [((cu : Int), bs)])[ps.length]? = some ((cu : Int), bs) := by
    rw [List.getElem?_append_right (by omega), hl, Nat.sub_self]
    rfl
  have dnew : dep (wy ++ [((cu : Int), bs)]) ps.length = dep wy cu + 1 := by
    unfold dep
    rw [path_next wok (by omega) last, List.length_append]
    show (path (wy ++ [((cu : Int), bs)]) (cu : Int).toNat).length + 1 = _
    rw [Int.toNat_natCast, path_app hB.ways _ (by omega)]
  have lift : ∀ {j : Nat} {r : S}, ps[j]? = some r → (ps ++ [nx q bs])[j]? = some r := fun {j r} hj => by
    rw [List.getElem?_append_left (List.getElem?_eq_some_iff.mp hj).1]
    exact hj
  have back : ∀ {j : Nat} {r : S}, j < ps.length → (ps ++ [nx q bs])[j]? = some r → ps[j]? = some r := fun {j r} hj hr => by
    rwa [List.getElem?_append_left hj] at hr
  have pl : (ps ++ [nx q bs]).length = ps.length + 1 := by rw [List.length_append]; rfl
  have cases' : ∀ {j : Nat}, j < (ps ++ [nx q bs]).length → j < ps.length ∨ j = ps.length := fun {j} hj => by omega
  have near' : ∀ j : Nat, j < (ps ++ [nx q bs]).length → dep (wy ++ [((cu : Int), bs)]) j ≤ dep wy cu + 1 := fun j hj => by
    rcases cases' hj with z | rfl
    · rw [old z]
      exact h.near j z
    · rw [dnew]
      exact Nat.le_refl _
  refine ⟨⟨lift hB.first, wok, by rw [List.length_append, pl, hl]; rfl, fun j e hj h0 => ?_, fun i r hi hr b hb' => ?_, fun i j hij hj => ?_⟩, lift h.here, fun j hj => by rw [old hc]; exact near' j hj, fun b hb' => ?_⟩
  · by_cases hlt : j < wy.length
    · rw [List.getElem?_append_left hlt] at hj
      obtain ⟨a1, r, a2, a3⟩ := hB.link j e hj h0
      exact ⟨a1, r, lift a2, lift a3⟩
    · have hj1 := (List.getElem?_eq_some_iff.mp hj).1
      rw [List.length_append] at hj1
      obtain rfl : j = ps.length := by
        have : j < wy.length + 1 := hj1
        omega
      rw [last] at hj
      obtain rfl : ((cu : Int), bs) = e := Option.some.inj hj
      refine ⟨List.mem_of_getElem? hb, q, ?_, ?_⟩
      · show (ps ++ [nx q bs])[(cu : Int).toNat]? = _
        rw [Int.toNat_natCast]
        exact lift h.here
      · rw [List.getElem?_append_right (Nat.le_refl _), Nat.sub_self]
        rfl
  · have hi' : i < ps.length := by omega
    obtain ⟨a1, i', a2, a3⟩ := hB.done i r hi (back hi' hr) b hb'
    refine ⟨a1, i', lift a2, ?_⟩
    rw [old hi', old (List.getElem?_eq_some_iff.mp a2).1]
    exact a3
  · rcases cases' hj with z | rfl
    · rw [old z, old (by omega)]
      exact hB.mono i j hij z
    · rw [dnew]
      exact near' i (by omega)
  · rw [List.take_add_one, hb] at hb'
    rw [old hc]
    rcases List.mem_append.mp hb' with z | z
    · obtain ⟨a1, i', a2, a3⟩ := h.some b z
      refine ⟨a1, i', lift a2, ?_⟩
      rw [old (List.getElem?_eq_some_iff.mp a2).1]
      exact a3
    · obtain rfl : b = bs := by simpa using z
      refine ⟨he, ps.length, ?_, by rw [dnew]; exact Nat.le_refl _⟩
      rw [List.getElem?_append_right (Nat.le_refl _), Nat.sub_self]
      rfl
theorem bfsp_doneG {m : Nat} {S : Type} {nx : S → List Int → S} {gd : S → List Int → Prop} {s0 : S} {ps : List S} {wy : List (Int × List Int)} {cu : Nat} {q : S} (h : BfsPG m nx gd s0 ps wy cu (allB m).length q) : BfsG m nx gd s0 ps wy (cu + 1) ∧ ∀ j : Nat, cu + 1 < ps.length → j < ps.length → dep wy j ≤ dep wy (cu + 1) + 1 := by
  refine ⟨⟨h.bfs.first, h.bfs.ways, h.bfs.len, h.bfs.link, fun i r hi hr bs hbs => ?_, h.bfs.mono⟩, fun j hc hj => ?_⟩
  · by_cases hlt : i < cu
    · exact h.bfs.done i r hlt hr bs hbs
    · obtain rfl : i = cu := by omega
      rw [h.here] at hr
      obtain rfl := Option.some.inj hr
      exact h.some bs (by rw [List.take_length]; exact hbs)
  · have a := h.near j hj
    have b := h.bfs.mono cu (cu + 1) (by omega) hc
    omega
theorem bfs_firstG {S : Type} (m : Nat) (nx : S → List Int → S) (gd : S → List Int → Prop) (s0 : S) : BfsG m nx gd s0 [s0] [(0, [])] 0 := by
  refine ⟨rfl, fun j e hj h0 => ?_, rfl, fun j e hj h0 => ?_, fun i r hi => absurd hi (Nat.not_lt_zero _), fun i j hij hj => ?_⟩
  · have := (List.getElem?_eq_some_iff.mp hj).1
    simp only [List.length_cons, List.length_nil] at this
    omega
  · have := (List.getElem?_eq_some_iff.mp hj).1
    simp only [List.length_cons, List.length_nil] at this
    omega
  · simp only [List.length_cons, List.length_nil] at hj
    obtain rfl : j = 0 := by omega
    obtain rfl : i = 0 := by omega
    exact Nat.le_refl _
def RtG {S : Type} (m : Nat) (nx : S → List Int → S) (s0 : S) : Nat → S → Prop
  | 0, q => q = s0
  | t + 1, q => ∃ q0 bs, RtG m nx s0 t q0 ∧ bs ∈ allB m ∧ q = nx q0 bs
/-- some pair that comes in so many steps parts the outs -/
def PrtSG {S : Type} (m : Nat) (nx : S → List Int → S) (gd : S → List Int → Prop) (s0 : S) (t : Nat) : Prop := ∃ q bs, RtG m nx s0 t q ∧ bs ∈ allB m ∧ ¬ gd q bs
/-- the least width at which two rows part, or 0 -/
def LeastWG {S : Type} (m : Nat) (nx : S → List Int → S) (gd : S → List Int → Prop) (s0 : S) (n : Nat) : Prop := (n = 0 ∧ ∀ t, ¬ PrtSG m nx gd s0 t) ∨ ∃ t, n = t + 1 ∧ PrtSG m nx gd s0 t ∧ ∀ s, s < t → ¬ PrtSG m nx gd s0 s
theorem rt_pathG {m : Nat} {S : Type} {nx : S → List Int → S} {s0 : S} : ∀ {cs : List (List Int)}, (∀ c ∈ cs, c ∈ allB m) → RtG m nx s0 cs.length (cs.foldl nx s0) := by
  intro cs
  suffices hh : ∀ (n : Nat) (cs : List (List Int)), cs.length = n → (∀ c ∈ cs, c ∈ allB m) → RtG m nx s0 n (cs.foldl nx s0) from hh cs.length cs rfl
  intro n
  induction n with
  | zero =>
    intro cs hl _
    rw [List.length_eq_zero_iff.mp hl]
    exact rfl
  | succ n ih =>
    intro cs hl hc
    have hne : cs ≠ [] := fun z => by rw [z] at hl; cases hl
    have e := List.dropLast_concat_getLast hne
    rw [← e, List.foldl_append]
    refine ⟨_, cs.getLast hne, ih cs.dropLast (by rw [List.length_dropLast, hl]; rfl) (fun c hc' => hc c (List.dropLast_subset _ hc')), hc _ (List.getLast_mem hne), rfl⟩
theorem bfs_neverG {m : Nat} {S : Type} {nx : S → List Int → S} {gd : S → List Int → Prop} {s0 : S} {ps : List S} {wy : List (Int × List Int)} (h : BfsG m nx gd s0 ps wy ps.length) (t : Nat) : ¬ PrtSG m nx gd s0 t := by
  have all : ∀ (t : Nat) q, RtG m nx s0 t q → q ∈ ps := by
    intro t
    induction t with
    | zero =>
      intro q hq
      have hq' : q = _ := hq
      rw [hq']
      exact List.mem_of_getElem? h.first
    | succ t ih =>
      rintro q ⟨q0, bs, h0, hb, rfl⟩
      obtain ⟨i, hi⟩ := List.mem_iff_getElem?.mp (ih q0 h0)
      obtain ⟨_, i', hi', _⟩ := h.done i q0 (List.getElem?_eq_some_iff.mp hi).1 hi bs hb
      exact List.mem_of_getElem? hi'
  rintro ⟨q, bs, hq, hb, hne⟩
  obtain ⟨i, hi⟩ := List.mem_iff_getElem?.mp (all t q hq)
  exact hne (h.done i q (List.getElem?_eq_some_iff.mp hi).1 hi bs hb).1
theorem bfs_firstwG {m : Nat} {S : Type} {nx : S → List Int → S} {gd : S → List Int → Prop} {s0 : S} {ps : List S} {wy : List (Int × List Int)} {cu : Nat} {q : S} {bs : List Int} (h : BfsG m nx gd s0 ps wy cu) (hq : ps[cu]? = some q) (hb : bs ∈ allB m) (hne : ¬ gd q bs) :
    LeastWG m nx gd s0 (path wy cu ++ [bs]).length := by
  have hc := (List.getElem?_eq_some_iff.mp hq).1
  have below : ∀ (t : Nat) q, t ≤ dep wy cu → RtG m nx s0 t q → ∃ i : Nat, ps[i]? = some q ∧ dep wy i ≤ t := by
    intro t
    induction t with
    | zero =>
      intro q _ hq
      have hq' : q = _ := hq
      exact ⟨0, by rw [hq']; exact h.first, Nat.le_refl _⟩
    | succ t ih =>
      rintro q ht ⟨q0, bs, h0, hb, rfl⟩
      obtain ⟨i, hi, hd⟩ := ih q0 (by omega) h0
      have lt : i < cu := by
        by_cases hh : i < cu
        · exact hh
        · have := h.mono cu i (by omega) (List.getElem?_eq_some_iff.mp hi).1
          omega
      obtain ⟨_, i', hi', hd'⟩ := h.done i q0 lt hi bs hb
      exact ⟨i', hi', by omega⟩
  obtain ⟨p1, p2⟩ := bfs_pathG h cu cu q (Nat.le_refl _) hq
  refine .inr ⟨(path wy cu).length, by rw [List.length_append]; rfl, ⟨q, bs, ?_, hb, hne⟩, fun s hs => ?_⟩
  · rw [p2]
    exact rt_pathG p1
  · rintro ⟨q', bs', hq', hb', hne'⟩
    have hs' : s < dep wy cu := hs
    obtain ⟨i, hi, hd⟩ := below s q' (by omega) hq'
    have lt : i < cu := by
      by_cases hh : i < cu
      · exact hh
      · have := h.mono cu i (by omega) (List.getElem?_eq_some_iff.mp hi).1
        omega
    exact hne' (h.done i q' lt hi bs' hb').1
theorem least_uniqG {m : Nat} {S : Type} {nx : S → List Int → S} {gd : S → List Int → Prop} {s0 : S} {n n' : Nat} (h : LeastWG m nx gd s0 n) (h' : LeastWG m nx gd s0 n') : n = n' := by
  rcases h with ⟨rfl, h1⟩ | ⟨t, rfl, h1, h2⟩
  · rcases h' with ⟨rfl, _⟩ | ⟨t', rfl, h1', _⟩
    · rfl
    · exact absurd h1' (h1 t')
  · rcases h' with ⟨rfl, h1'⟩ | ⟨t', rfl, h1', h2'⟩
    · exact absurd h1 (h1' t)
    · have : t = t' := by
        rcases Nat.lt_trichotomy t t' with z | z | z
        · exact absurd h1 (h2' t z)
        · exact z
        · exact absurd h1' (h2 t' z)
      rw [this]
abbrev T3 := PC × Int
def sgn (s a b : Int) : Int := if a = b then s else if a = 1 then 2 else 1
def nx3 (ds1 : List Deed) (o1 : Int) (ds2 : List Deed) (o2 : Int) (t : T3) (bs : List Int) : T3 := (nx2 ds1 ds2 t.1 bs, sgn t.2 (ob ds1 o1 t.1.1 bs) (ob ds2 o2 t.1.2 bs))
def gd3 (ds1 : List Deed) (o1 : Int) (ds2 : List Deed) (o2 : Int) (t : T3) (bs : List Int) : Prop := ¬ (nx3 ds1 o1 ds2 o2 t bs).2 = 2
def fst3 (ds1 ds2 : List Deed) : T3 := ((ds1.map fcD, ds2.map fcD), 0)
def kT3 (t : T3) : NestedKey := .tup [kC t.1.1, kC t.1.2, .num t.2]
theorem kT3_inj {a b : T3} (h : kT3 a = kT3 b) : a = b := by
  have h1 := NestedKey.tup.inj h
  rw [List.cons.injEq, List.cons.injEq, List.cons.injEq] at h1
  exact Prod.ext (Prod.ext (kC_inj h1.1) (kC_inj h1.2.1)) (NestedKey.num.inj h1.2.2.1)
def TrC (H : Hp) (p : Addr) (t : T3) : Prop := ∃ A B, H p = some (.tup [.ref A, .ref B, .int t.2]) ∧ H A = some (.tup (t.1.1.map V.int)) ∧ H B = some (.tup (t.1.2.map V.int))
theorem TrC.stay {H H' : Hp} {p : Addr} {q : T3} (h : TrC H p q) (t : TupsStay H H') : TrC H' p q := by
  obtain ⟨A, B, e1, e2, e3⟩ := h
  exact ⟨A, B, t _ _ e1, t _ _ e2, t _ _ e3⟩
theorem key3 {H : Hp} {T : Addr} {q : T3} (h : TrC H T q) : KeyN H (.ref T) (kT3 q) := by
  obtain ⟨A, B, e1, e2, e3⟩ := h
  refine ⟨.tup e1 (.cons (keyC e2).1 (.cons (keyC e3).1 (.cons (.num _) .nil))), ?_, T, rfl⟩
  unfold kT3 kC
  simp [NestedKey.depth, NestedKey.depthAll, nums_depth]
theorem trC_of {H : Hp} {T : Addr} {q : T3} (h : NkAt H (kT3 q) (.ref T)) : TrC H T q := by
  unfold kT3 at h
  cases h with
  | tup e hs =>
    cases hs with
    | cons h1 h2 =>
      cases h2 with
      | cons h3 h4 =>
        cases h4 with
        | cons h5 h6 =>
          cases h6
          cases h5
          obtain ⟨A, rfl, eA⟩ := kC_at h1
          obtain ⟨B, rfl, eB⟩ := kC_at h3
          exact ⟨A, B, e, eA, eB⟩
abbrev TtAt (H : Hp) : List Addr → List T3 → Prop := Paired (TrC H)
theorem ttat_stay {H H' : Hp} (t : TupsStay H H') {qs : List Addr} {l : List T3} (h : TtAt H qs l) : TtAt H' qs l := awMap (fun _ _ e => e.stay t) h
structure TcOk (ds1 ds2 : List Deed) (t : T3) : Prop where
  p : PcOk ds1 ds2 t.1
  s : t.2 = 0 ∨ t.2 = 1 ∨ t.2 = 2
theorem sgn_ok {s a b : Int} (h : s = 0 ∨ s = 1 ∨ s = 2) : sgn s a b = 0 ∨ sgn s a b = 1 ∨ sgn s a b = 2 := by
  unfold sgn
  split
  · exact h
  · split
    · exact .inr (.inr rfl)
    · exact .inr (.inl rfl)
theorem nx3_ok {m : Nat} {ds1 ds2 : List Deed} {o1 o2 : Int} {q : T3} {bs : List Int} (h : TcOk ds1 ds2 q) (hb : bs ∈ allB m) : TcOk ds1 ds2 (nx3 ds1 o1 ds2 o2 q bs) := ⟨nx2_ok h.p hb, sgn_ok h.s⟩
theorem tc_first (ds1 ds2 : List Deed) : TcOk ds1 ds2 (fst3 ds1 ds2) := ⟨pc_first ds1 ds2, .inl rfl⟩
/-- as many triples as there can be -/
theorem few_trip {ds1 ds2 : List Deed} {ps : List T3} (nd : ps.Nodup) (h : ∀ q ∈ ps, TcOk ds1 ds2 q) : ps.length ≤ 3 * (2 ^ ds1.length * 2 ^ ds2.length) := by
  have bn : ∀ n : Nat, ∀ c : List Int, c.length = n → (∀ x ∈ c, Bit x) → c ∈ allB n := fun n c hc hb => allB_all n c hc hb
  have sub : ∀ q ∈ ps, q ∈ ((allB ds1.length).flatMap fun a => (allB ds2.length).map fun b => (a, b)).flatMap fun (c : PC) => [(c, (0 : Int)), (c, 1), (c, 2)] := fun q hq => by
    have k := h q hq
    refine List.mem_flatMap.mpr ⟨q.1, List.mem_flatMap.mpr ⟨q.1.1, bn _ _ k.p.l1 k.p.b1, List.mem_map.mpr ⟨q.1.2, bn _ _ k.p.l2 k.p.b2, rfl⟩⟩, ?_⟩
    obtain ⟨c, s⟩ := q
    rcases k.s with e | e | e <;> (have e' : s = _ := e; rw [e']; simp)
  have le := pigeon ps _ nd sub
  have key : ∀ L : List (List Int), (L.flatMap fun a => (allB ds2.length).map fun b => (a, b)).length = L.length * 2 ^ ds2.length := by
    intro L
    induction L with
    | nil => simp
    | cons a L ih =>
      rw [List.flatMap_cons, List.length_append, ih, List.length_map, allB_len, List.length_cons, Nat.succ_mul]
      omega
  have key2 : ∀ L : List PC, (L.flatMap fun (c : PC) => [(c, (0 : Int)), (c, 1), (c, 2)]).length = 3 * L.length := by
    intro L
    induction L with
    | nil => simp
    | cons a L ih =>
      rw [List.flatMap_cons, List.length_append, ih, List.length_cons]
      simp only [List.length_cons, List.length_nil]
      omega
  rw [key2, key, allB_len] at le
  exact le
theorem few_trip8 {ds1 ds2 : List Deed} {ps : List T3} (nd : ps.Nodup) (h : ∀ q ∈ ps, TcOk ds1 ds2 q) (l1 : ds1.length ≤ 8) (l2 : ds2.length ≤ 8) : ps.length ≤ 196608 := by
  have := few_trip nd h
  have p1 : 2 ^ ds1.length ≤ 256 := Nat.le_trans (Nat.pow_le_pow_right (by decide) l1) (by decide)
  have p2 : 2 ^ ds2.length ≤ 256 := Nat.le_trans (Nat.pow_le_pow_right (by decide) l2) (by decide)
  have := Nat.mul_le_mul p1 p2
  omega
theorem keys_at3 {ps : List T3} {ts : List WT} (e : ts.map (·.1) = ps.map kT3) {i : Nat} {t : WT} (h : ts[i]? = some t) : ∃ c, ps[i]? = some c ∧ t.1 = kT3 c := by
  have h1 : (ts.map (·.1))[i]? = some t.1 := by rw [List.getElem?_map, h]; rfl
  rw [e, List.getElem?_map] at h1
  cases hc : ps[i]? with
  | none => rw [hc] at h1; cases h1
  | some c => rw [hc] at h1; exact ⟨c, rfl, (Option.some.inj h1).symm⟩
theorem keys_len3 {ps : List T3} {ts : List WT} (e : ts.map (·.1) = ps.map kT3) : ts.length = ps.length := by
  have := congrArg List.length e
  rwa [List.length_map, List.length_map] at this
theorem keys_nd3 {ps : List T3} {ts : List WT} (h : (ts.map (·.1)).Nodup) (e : ts.map (·.1) = ps.map kT3) : ps.Nodup := by
  rw [e] at h
  exact List.Pairwise.imp (fun {a b} z y => z (congrArg kT3 y)) (List.pairwise_map.mp h)
theorem walk_tt {C p M N W : Addr} {H : Hp} {ts : List WT} {wy : List (Int × List Int)} {ps : List T3} (h : WalkAt P w C H p M N W ts wy) (e : ts.map (·.1) = ps.map kT3) : TtAt H (ts.map (·.2)) ps := by
  have key : ∀ {l : List WT} {qs : List T3}, (∀ t ∈ l, KeyN H (.ref t.2) t.1) → l.map (·.1) = qs.map kT3 → TtAt H (l.map (·.2)) qs := by
    intro l
    induction l with
    | nil =>
      intro qs _ e
      cases qs with
      | nil => exact .nil
      | cons a b => cases e
    | cons t l ih =>
      intro qs hk e
      cases qs with
      | nil => cases e
      | cons a b =>
        rw [List.map_cons, List.map_cons, List.cons.injEq] at e
        refine .cons ?_ (ih (fun x hx => hk x (List.mem_cons_of_mem _ hx)) e.2)
        have := (hk t List.mem_cons_self).1
        rw [e.1] at this
        exact trC_of this
  exact key h.keys e
def cmpS (x y : Int) : Int := if x = y then 0 else if x < y then 1 else 2
theorem cmpS_next {x y P a b : Int} (hx : 0 ≤ x ∧ x < P) (hy : 0 ≤ y ∧ y < P) (ha : Bit a) (hb : Bit b) : cmpS (x + a * P) (y + b * P) = sgn (cmpS x y) a b := by
  rcases ha with rfl | rfl <;> rcases hb with rfl | rfl
  · show cmpS (x + 0 * P) (y + 0 * P) = cmpS x y
    rw [Int.zero_mul, Int.add_zero, Int.add_zero]
  · show cmpS (x + 0 * P) (y + 1 * P) = 1
    unfold cmpS
    rw [Int.zero_mul, Int.one_mul, if_neg (by omega), if_pos (by omega)]
  · show cmpS (x + 1 * P) (y + 0 * P) = 2
    unfold cmpS
    rw [Int.zero_mul, Int.one_mul, if_neg (by omega), if_neg (by omega)]
  · show cmpS (x + 1 * P) (y + 1 * P) = cmpS x y
    unfold cmpS
    rw [Int.one_mul]
    by_cases h : x = y
    · rw [if_pos h, if_pos (by omega)]
    · rw [if_neg h, if_neg (by omega)]
      by_cases h2 : x < y
      · rw [if_pos h2, if_pos (by omega)]
      · rw [if_neg h2, if_neg (by omega)]
theorem mod_next (v : Int) (t : Nat) : v % 2 ^ (t + 1) = v % 2 ^ t + bitA t v * 2 ^ t := by
  have h := Int.mul_ediv_add_emod v (2 ^ t)
  have h2 := Int.mul_ediv_add_emod (v / 2 ^ t) 2
  have p : (0 : Int) < 2 ^ t := pw_pos t
  have r0 := Int.emod_nonneg v (Int.ne_of_gt p)
  have r1 := Int.emod_lt_of_pos v p
  have b0 : bitA t v = v / 2 ^ t % 2 := rfl
  have hb := bitA_bit t v
  have e : v = (v % 2 ^ t + bitA t v * 2 ^ t) + 2 ^ (t + 1) * (v / 2 ^ t / 2) := by
    rw [b0, Int.pow_succ]
    have e1 : 2 ^ t * (v / 2 ^ t) = 2 ^ t * (2 * (v / 2 ^ t / 2) + v / 2 ^ t % 2) := by rw [h2]
    rw [Int.mul_add] at e1
    have e2 : (2 : Int) ^ t * 2 * (v / 2 ^ t / 2) = 2 ^ t * (2 * (v / 2 ^ t / 2)) := Int.mul_assoc _ _ _
    have e3 : v / 2 ^ t % 2 * 2 ^ t = 2 ^ t * (v / 2 ^ t % 2) := Int.mul_comm _ _
    omega
  have rng : 0 ≤ v % 2 ^ t + bitA t v * 2 ^ t ∧ v % 2 ^ t + bitA t v * 2 ^ t < 2 ^ (t + 1) := by
    rw [Int.pow_succ]
    rcases hb with z | z <;> rw [z] <;> omega
  have := congrArg (· % (2 : Int) ^ (t + 1)) e
  rw [show v % 2 ^ (t + 1) = (v % 2 ^ t + bitA t v * 2 ^ t + 2 ^ (t + 1) * (v / 2 ^ t / 2)) % 2 ^ (t + 1) from this, Int.add_mul_emod_self_left, Int.emod_eq_of_lt rng.1 rng.2]
theorem runG3 {m : Nat} {ds1 ds2 : List Deed} {o1 o2 : Int} {cols : List (List Int)} (ok1 : RowOk m ds1 o1) (ok2 : RowOk m ds2 o2) (hall : ∀ c ∈ cols, c.length = m ∧ ∀ x ∈ c, Bit x) :
    ∀ t, t ≤ cols.length → (cols.take t).foldl (nx3 ds1 o1 ds2 o2) (fst3 ds1 ds2) = ((runC ds1 (ds1.map fcD) (cols.take t), runC ds2 (ds2.map fcD) (cols.take t)), cmpS ((vals (2 ^ cols.length) ds1 (wofL m cols)).getD o1.toNat 0 % 2 ^ t) ((vals (2 ^ cols.length) ds2 (wofL m cols)).getD o2.toNat 0 % 2 ^ t))
  | 0, _ => by
    rw [List.take_zero]
    have e : ∀ v : Int, v % 2 ^ 0 = 0 := fun v => by rw [Int.pow_zero, Int.emod_one]
    rw [e, e]
    rfl
  | t + 1, ht => by
    have e : cols[t]? = some cols[t] := List.getElem?_eq_getElem (by omega)
    have hx := wofL_range hall
    have hm := wofL_len m cols
    have b1 := ob_bit (t := t) ok1 hm hx (by omega)
    have b2 := ob_bit (t := t) ok2 hm hx (by omega)
    rw [crry_run hall _ (by omega), wofL_bits hall e] at b1 b2
    rw [List.take_add_one, e, Option.toList_some, List.foldl_append, runG3 ok1 ok2 hall t (by omega), runC_snoc, runC_snoc]
    have p : (0 : Int) < 2 ^ t := pw_pos t
    have n1 : ∀ v : Int, 0 ≤ v % 2 ^ t ∧ v % 2 ^ t < 2 ^ t := fun v => ⟨Int.emod_nonneg _ (by omega), Int.emod_lt_of_pos _ p⟩
    rw [mod_next, mod_next, cmpS_next (n1 _) (n1 _) (bitA_bit t _) (bitA_bit t _), ← b1, ← b2]
    rfl
/-- the words told make the row greater -/
theorem trip_greater {m : Nat} {ds1 ds2 : List Deed} {o1 o2 : Int} {cols : List (List Int)} (ok1 : RowOk m ds1 o1) (ok2 : RowOk m ds2 o2) (hall : ∀ c ∈ cols, c.length = m ∧ ∀ x ∈ c, Bit x) (h : (cols.foldl (nx3 ds1 o1 ds2 o2) (fst3 ds1 ds2)).2 = 2) :
    (vals (2 ^ cols.length) ds2 (wofL m cols)).getD o2.toNat 0 < (vals (2 ^ cols.length) ds1 (wofL m cols)).getD o1.toNat 0 := by
  have e := runG3 ok1 ok2 hall cols.length (Nat.le_refl _)
  rw [List.take_length] at e
  rw [e] at h
  have hx := wofL_range hall
  have hm := wofL_len m cols
  rw [wr_range ok1 hm hx, wr_range ok2 hm hx] at h
  have h' : cmpS _ _ = 2 := h
  unfold cmpS at h'
  split at h'
  · cases h'
  · split at h'
    · cases h'
    · omega
def spSb : Sp := fun vs H Q _ => ∃ s a b : Int, vs = [.int s, .int a, .int b] ∧ Bit a ∧ Bit b ∧ Q (.int (sgn s a b)) H
theorem ok_sb {f : Addr} {fd : FuncData} {k : Nat} {tA tB : Tok} (F : Fun K "sign_behind" "sign_behind" s_sign_behind f fd) (gA : mg "ABOVE" = some (.int 2 tA)) (gB : mg "BELOW" = some (.int 1 tB)) : FnOk P w K mg base CX0 (k + 1) f fd ["sign", "bit", "others_bit"] spSb := by
  refine F.ok sc_sign_behind (fun vs H Q E h => ?_) (fun cdv A outer s H vs Q E hr h => ?_)
  · obtain ⟨s, a, b, rfl, _⟩ := h
    rfl
  · obtain ⟨s, a, b, rfl, ha, hb, q⟩ := h
    refine ⟨_, pss_cons (ps_if (pt_cmpR op_eq (pv 1) (pv 2) (nomark _)) (pss_one (ps_ret (pv 0))) pss_nil)
      (pss_one (ps_ret (pe_ifExp (pt_cmpR op_eq (pv 1) pe_int (nomark _)) (pe_glob (v := .int 2) (by rfl) gA ⟨_, rfl⟩) (pe_glob (v := .int 1) (by rfl) gB ⟨_, rfl⟩)))), ?_⟩
    refine ⟨.int a, rfl, .int b, rfl, rfl, _, rfl, ite2 (fun e => ?_) (fun e => ?_)⟩
    · unfold sgn at q
      rw [if_pos (intEq e)] at q
      exact ⟨.int s, rfl, q⟩
    · unfold sgn at q
      rw [if_neg (intNe e)] at q
      refine ⟨.int a, rfl, rfl, _, rfl, ite2 (fun e2 => ?_) (fun e2 => ?_)⟩
      · rw [if_pos (intEq e2)] at q
        exact q
      · rw [if_neg (intNe e2)] at q
        exact q
def spTb : Sp := fun vs H Q _ => ∃ (s : Int) (L : Addr) (ts : List Addr) (l : List Bst2), vs = [.int s, .ref L] ∧ H L = some (.lst (ts.map V.ref)) ∧ BsAt2 H ts l ∧ (∀ e ∈ l, Bit e.1.1 ∧ Bit e.2.1) ∧ l.length ≤ 8 ∧
  ∀ H' p qs, Same H H' → H p = none → H' p = some (.lst (qs.map V.ref)) → TtAt H' qs (l.map fun e => ((e.1.2, e.2.2), sgn s e.1.1 e.2.1)) → Q (.ref p) H'
theorem ok_tb {f fS : Addr} {fd fdS : FuncData} {k : Nat} (F : Fun K "triples_behind" "triples_behind" s_triples_behind f fd)
    (GS : FnOk P w K mg base CX0 (k + 1) fS fdS ["sign", "bit", "others_bit"] spSb) (kS : PySem.W.keepIn K (.ref fS) = true) (bS : Binds K fdS ["sign", "bit", "others_bit"] []) (gS : mg "sign_behind" = some (.ref fS)) : FnOk P w K mg base CX0 (k + 2) f fd ["sign", "both"] spTb := by
  refine F.ok sc_triples_behind (fun vs H Q E h => ?_) (fun cdv A outer s H vs Q E hr h => ?_)
  · obtain ⟨s, L, ts, l, rfl, _⟩ := h
    rfl
  · obtain ⟨sg, L, ts, l, rfl, eL, hts, hbits, l8, q⟩ := h
    refine ⟨_, pss_cons (ps_set (i := 2) sc_triples_behind.nd rfl (.inl rfl) (pe_lst pa_nil))
      (pss_cons (ps_for PassesOwn.never rfl (pi_list (pv 1)) (pg_tup rfl (pgs_cons (pg_name (i := 3) sc_triples_behind.nd rfl (.inl rfl)) (pgs_cons (pg_name (i := 4) sc_triples_behind.nd rfl (.inl rfl)) (pgs_cons (pg_tup rfl (pgs_cons (pg_name (i := 5) sc_triples_behind.nd rfl (.inl rfl)) (pgs_cons (pg_name (i := 6) sc_triples_behind.nd rfl (.inl rfl)) pgs_nil))) pgs_nil))))
        (pss_one (ps_expr (pe_bm PySem.F.plainAttrs_list PySem.F.slot_list_append PySem.F.type_list_append mt_append (pv 2) (pa_cons (pe_tup (pa_cons (pv 5) (pa_cons (pv 6) (pa_cons (pe_call GS hr (by rfl) gS kS bS .nil pass0 (pa_cons (pv 0) (pa_cons (pv 3) (pa_cons (pv 4) pa_nil)))) pa_nil)))) pa_nil)))))
      (pss_one (ps_ret (pv 2)))), ?_⟩
    refine ⟨Nat.zero_le _, fun To hTo => ?_⟩
    have sTo := same_new (o := .lst []) hTo
    have tl := awLen hts
    refine ⟨.ref L, rfl, L, rfl, ⟨_, .inl (.inl (sTo _ _ eL))⟩, for_list (K := K) (a := L) (xs := ts.map V.ref) (fun i σ H3 => ∃ y3 y4 y5 y6 qs, σ = [some (.int sg), some (.ref L), some (.ref To), y3, y4, y5, y6] ∧ H3 To = some (.lst (qs.map V.ref)) ∧ TtAt H3 qs ((l.take i).map fun e => ((e.1.2, e.2.2), sgn sg e.1.1 e.2.1)) ∧ Same H H3) ⟨none, none, none, none, [], rfl, upd_same, .nil, sTo⟩ (fun i σ H3 _ hp => ?_) (fun i x σ H3 hx hp => ?_) (fun σ H3 hp => ?_)⟩
    · obtain ⟨_, _, _, _, _, _, _, _, s3⟩ := hp
      exact .inl (.inl (s3 _ _ eL))
    · obtain ⟨y3, y4, y5, y6, qs, rfl, eTo, hqs, s3⟩ := hp
      rw [List.getElem?_map] at hx
      obtain ⟨t, ht, rfl⟩ := Option.map_eq_some_iff.mp hx
      obtain ⟨e, he, c, c1, c2, h1, h2, h3, h4⟩ := awGet hts ht
      have hi := (List.getElem?_eq_some_iff.mp ht).1
      obtain ⟨ba, bb⟩ := hbits e (List.mem_of_getElem? he)
      refine ⟨t, [.int e.1.1, .int e.2.1, .ref c], rfl, .inl (.inl (s3 _ _ h1)), rfl, .int e.1.1, [.int e.2.1, .ref c], rfl, .int e.2.1, [.ref c], rfl, .ref c, [], rfl, c, [.ref c1, .ref c2], rfl, .inl (.inl (s3 _ _ h2)), rfl, .ref c1, [.ref c2], rfl, .ref c2, [], rfl, rfl, rfl, ?_⟩
      refine ⟨.ref To, rfl, .inl ⟨rfl, _, .inl (.inl eTo)⟩, .ref c1, rfl, .ref c2, rfl, .int sg, rfl, .int e.1.1, rfl, .int e.2.1, rfl, sg, e.1.1, e.2.1, rfl, ba, bb, (by show 3 ≤ sizeLine; decide), fun U hU => ?_⟩
      have sU := same_new (o := .tup [.ref c1, .ref c2, .int (sgn sg e.1.1 e.2.1)]) hU
      have eTo2 := sU _ _ eTo
      have ql := awLen hqs
      rw [List.length_map, List.length_take] at ql
      refine ⟨To, _, _, rfl, rfl, eTo2, ?_, _, _, _, _, qs ++ [U], rfl, ?_, ?_, ?_⟩
      · rw [List.length_map]
        exact small1000 (by omega)
      · rw [upd_same, List.map_append]
        rfl
      · have tp := tups_put (o := .lst (qs.map V.ref ++ [V.ref U])) eTo2
        rw [List.take_add_one, he, List.map_append]
        exact ttat_stay tp (awSnoc (F := TrC _) (y := ((e.1.2, e.2.2), sgn sg e.1.1 e.2.1)) ⟨c1, c2, upd_same, sU _ _ (s3 _ _ h3), sU _ _ (s3 _ _ h4)⟩ (ttat_stay (Same.tups sU) hqs))
      · intro b u z
        rw [upd_ne (ne_of_none z hTo)]
        exact sU _ _ (s3 _ _ z)
    · obtain ⟨y3, y4, y5, y6, qs, rfl, eTo, hqs, s3⟩ := hp
      rw [List.length_map, tl, List.take_length] at hqs
      exact ⟨.ref To, rfl, q H3 To qs s3 hTo eTo hqs⟩
def spAm (cP : Addr) : Sp := fun vs H Q E => ∃ (R1 R2 : Addr) (m1 m2 : Nat) (o1 o2 : Int) (ds1 ds2 : List Deed), vs = [.ref R1, .ref R2] ∧ RowAt H R1 m1 ds1 o1 ∧ RowAt H R2 m2 ds2 o2 ∧ RowOk m1 ds1 o1 ∧ RowOk m2 ds2 o2 ∧
  (m1 = m2 → (∀ H' T M as ps wy, Same H H' → H T = none → H M = none → H' T = some (.tup [.str "most", .ref M]) → H' M = some (.lst (as.map V.ref)) → TtAt H' as ps → BfsG m1 (nx3 ds1 o1 ds2 o2) (gd3 ds1 o1 ds2 o2) (fst3 ds1 ds2) ps wy ps.length → ps.Nodup → (∀ q ∈ ps, TcOk ds1 ds2 q) → Q (.ref T) H') ∧
    (∀ H' T L ps wy cu q bs, Same H H' → H T = none → H L = none → H' T = some (.tup [.str "greater", .int ((path wy cu ++ [bs]).length : Nat), .ref L]) → H' L = some (.lst ((wofL m1 (path wy cu ++ [bs])).map V.int)) → BfsG m1 (nx3 ds1 o1 ds2 o2) (gd3 ds1 o1 ds2 o2) (fst3 ds1 ds2) ps wy cu → ps[cu]? = some q → bs ∈ allB m1 → (nx3 ds1 o1 ds2 o2 q bs).2 = 2 → (path wy cu).length ≤ 196608 → Q (.ref T) H')) ∧
  (¬ m1 = m2 → ∀ H', Same H H' → E (.ref cP) none H')
theorem pth_le3 (wy : List (Int × List Int)) : ∀ f i, (pth wy f i).length ≤ f
  | 0, _ => Nat.le_refl _
  | f + 1, i => by
    show (if i = 0 then [] else match wy[i]? with | some e => pth wy f e.1.toNat ++ [e.2] | none => []).length ≤ _
    by_cases h : i = 0
    · rw [if_pos h]; exact Nat.zero_le _
    · rw [if_neg h]
      cases wy[i]? with
      | none => exact Nat.zero_le _
      | some e =>
        dsimp only
        rw [List.length_append]
        have := pth_le3 wy f e.1.toNat
        show _ + 1 ≤ _
        omega
theorem zip_stp3 {m : Nat} {ds1 ds2 : List Deed} {o1 o2 : Int} {q : T3} {j : Nat} {tr : T3} {bs : List Int} (h : (((stp m ds1 o1 q.1.1).zip (stp m ds2 o2 q.1.2)).map fun e => ((e.1.2, e.2.2), sgn q.2 e.1.1 e.2.1))[j]? = some tr) (hb : (allB m)[j]? = some bs) : tr = nx3 ds1 o1 ds2 o2 q bs := by
  rw [List.getElem?_map] at h
  obtain ⟨be, hbe, rfl⟩ := Option.map_eq_some_iff.mp h
  obtain ⟨h1, h2⟩ := List.getElem?_zip_eq_some.mp hbe
  unfold stp at h1 h2
  rw [List.getElem?_map, hb] at h1 h2
  rw [← Option.some.inj h1, ← Option.some.inj h2]
  rfl
theorem stp_bits {m : Nat} {ds : List Deed} {o : Int} {c : List Int} (ok : RowOk m ds o) (hl : c.length = ds.length) (hc : ∀ x ∈ c, Bit x) : ∀ e ∈ stp m ds o c, Bit e.1 := fun e he => by
  obtain ⟨bs, hb, rfl⟩ := List.mem_map.mp he
  obtain ⟨b1, b2⟩ := allB_ok m bs hb
  have o0 := ok.o0
  have o1 := ok.o1
  have bl := bts_len hl.symm (t := bs)
  have ol : o.toNat < (bts ds c bs).length := by rw [bl, b1]; omega
  show Bit ((bts ds c bs).getD o.toNat 0)
  rw [List.getD_eq_getElem?_getD, List.getElem?_eq_getElem ol]
  exact bts_bits b2 hc _ (List.getElem_mem ol)
set_option maxHeartbeats 4000000 in
theorem ok_am {f fC fA fF fB fK fWd fX C cP : Addr} {fd fdC fdA fdF fdB fdK fdWd fdX fdI fdM fdT : FuncData} {tE tV : Tok} {k : Nat} {fI fM fT : Addr} (F : Fun K "at_most" "at_most" s_at_most f fd) (T : WCls K mg C)
    (GC : FnOk P w K mg base (L2.CX P w) (k + 1) fC fdC ["row", "other"] (spCp cP)) (kC' : PySem.W.keepIn K (.ref fC) = true) (bC : Binds K fdC ["row", "other"] []) (gC : mg "check_pair" = some (.ref fC))
    (GA : FnOk P w K mg base CX0 (k + 1) fA fdA ["many"] spAll) (kA : PySem.W.keepIn K (.ref fA) = true) (bA : Binds K fdA ["many"] []) (gA : mg "all_bits" = some (.ref fA))
    (GF : FnOk P w K mg base CX0 (k + 1) fF fdF ["row"] spFc) (kF : PySem.W.keepIn K (.ref fF) = true) (bF : Binds K fdF ["row"] []) (gF : mg "first_carry" = some (.ref fF))
    (GB : FnOk P w K mg base CX0 (k + 1) fB fdB ["ones", "others"] spBs2) (kB : PySem.W.keepIn K (.ref fB) = true) (bB : Binds K fdB ["ones", "others"] []) (gB : mg "both_steps" = some (.ref fB))
    (GK : FnOk P w K mg base CX0 (k + 5) fK fdK ["kept", "row", "carry"] spKs) (kK : PySem.W.keepIn K (.ref fK) = true) (bK : Binds K fdK ["kept", "row", "carry"] []) (gK : mg "kept_steps" = some (.ref fK))
    (GW : FnOk P w K mg base CX0 (k + 1) fWd fdWd ["many", "columns"] spWf) (kW : PySem.W.keepIn K (.ref fWd) = true) (bW : Binds K fdWd ["many", "columns"] []) (gW : mg "words_of" = some (.ref fWd))
    (MK : Mk K C fI) (GI : FnOk P w K mg base CX0 (k + 1) fI fdI ["self", "first"] (spWi P w C)) (bI : Binds K fdI ["self", "first"] [])
    (MM : Meth K C "meet" fM) (GM : FnOk P w K mg base CX0 (k + 1) fM fdM ["self", "thing", "ahead", "bits"] (spWm P w C)) (bM : Binds K fdM ["self", "thing", "ahead", "bits"] [])
    (MT : Meth K C "bits_to" fT) (GT : FnOk P w K mg base CX0 (k + 1) fT fdT ["self", "number"] (spBt P w C)) (bT : Binds K fdT ["self", "number"] [])
    (GX : FnOk P w K mg base CX0 (k + 2) fX fdX ["sign", "both"] spTb) (kX : PySem.W.keepIn K (.ref fX) = true) (bX : Binds K fdX ["sign", "both"] []) (gX : mg "triples_behind" = some (.ref fX)) (gE : mg "EVEN" = some (.int 0 tE)) (gV : mg "ABOVE" = some (.int 2 tV))
    (mn : mg "len" = none) (mz : mg "zip" = none) : FnOk P w K mg base (L2.CX P w) (k + 6) f fd ["row", "other"] (spAm cP) := by
  refine F.okX sc_at_most (fun vs H Q E h => ?_) (fun cdv A outer s H vs Q E hr h => ?_)
  · obtain ⟨R1, R2, m1, m2, o1, o2, ds1, ds2, rfl, _⟩ := h
    rfl
  · obtain ⟨R1, R2, m1, m2, o1, o2, ds1, ds2, rfl, hr1, hr2, ok1, ok2, q, qE⟩ := h
    have r1 := hr.mono (show k + 1 ≤ k + 5 by omega)
    have r2 := hr.mono (show k + 1 + 1 ≤ k + 5 by omega)
    have r2' := hr.mono (show k + 2 ≤ k + 5 by omega)
    refine ⟨_, pss_cons (ps_expr (pe_callS GC r1 (by rfl) gC kC' bC (fun σ => passAt (takes_of rfl rfl rfl rfl) σ) (pa_cons (pv 0) (pa_cons (pv 1) pa_nil))))
      (pss_cons (ps_set (i := 2) sc_at_most.nd rfl (.inl rfl) (pe_call GA r1 (by rfl) gA kA bA .nil pass0 (pa_cons (pe_ix ix_tup (pv 0) pe_int (fun _ _ => rfl)) pa_nil)))
      (pss_cons (ps_par (i := 3) (j := 4) rfl sc_at_most.nd rfl rfl (by decide) rfl rfl (pa_cons pe_dnewT (pa_cons pe_dnewT pa_nil)) (by rfl))
      (pss_cons (ps_set (i := 5) sc_at_most.nd rfl (.inl rfl) (pe_make MK GI r2 (by rfl) T.mgC bI .nil pass0 (pa_cons (pe_tup (pa_cons (pe_call GF r1 (by rfl) gF kF bF .nil pass0 (pa_cons (pv 0) pa_nil)) (pa_cons (pe_call GF r1 (by rfl) gF kF bF .nil pass0 (pa_cons (pv 1) pa_nil)) (pa_cons (pe_glob (v := .int 0) (by rfl) gE ⟨_, rfl⟩) pa_nil)))) pa_nil)))
      (pss_cons (ps_set (i := 6) sc_at_most.nd rfl (.inl rfl) pe_int)
      (pss_cons (ps_while (passes_of rfl) (pt_cmpR op_lt (pv 6) (pe_callB call_len_seq (by rfl) mn PySem.boot_len (pa_cons (pe_fld (pv 5) rfl) pa_nil)) (nomark _))
        (pss_cons (ps_asg (pe_ix ix_list (pe_fld (pv 5) rfl) (pv 6) (fun _ _ => rfl)) (pg_tup rfl (pgs_cons (pg_name (i := 7) sc_at_most.nd rfl (.inl rfl)) (pgs_cons (pg_name (i := 8) sc_at_most.nd rfl (.inl rfl)) (pgs_cons (pg_name (i := 9) sc_at_most.nd rfl (.inl rfl)) pgs_nil)))))
        (pss_cons (ps_set (i := 10) sc_at_most.nd rfl (.inl rfl) (pe_call GB r1 (by rfl) gB kB bB .nil pass0 (pa_cons (pe_call GK hr (by rfl) gK kK bK .nil pass0 (pa_cons (pv 3) (pa_cons (pv 0) (pa_cons (pv 7) pa_nil)))) (pa_cons (pe_call GK hr (by rfl) gK kK bK .nil pass0 (pa_cons (pv 4) (pa_cons (pv 1) (pa_cons (pv 8) pa_nil)))) pa_nil))))
        (pss_cons (ps_for (passes_of rfl) rfl (pi_zip (by rfl) mz (pa_cons (pv 2) (pa_cons (pe_call GX r2' (by rfl) gX kX bX .nil pass0 (pa_cons (pv 9) (pa_cons (pv 10) pa_nil))) pa_nil))) (pg_tup rfl (pgs_cons (pg_name (i := 11) sc_at_most.nd rfl (.inl rfl)) (pgs_cons (pg_name (i := 12) sc_at_most.nd rfl (.inl rfl)) pgs_nil)))
          (pss_cons (ps_if (pt_cmpR op_eq (pe_ix ix_tup (pv 12) pe_int (fun _ _ => rfl)) (pe_glob (v := .int 2) (by rfl) gV ⟨_, rfl⟩) (nomark _))
            (pss_cons (ps_set (i := 13) sc_at_most.nd rfl (.inl rfl) (pe_op op_cat (pe_meth (pv 5) T.cl MT GT r1 bT .nil pass0 (pa_cons (pv 6) pa_nil)) (pe_lst (pa_cons (pv 11) pa_nil))))
            (pss_one (ps_ret (pe_tup (pa_cons pe_str (pa_cons (pe_callB call_len_seq (by rfl) mn PySem.boot_len (pa_cons (pv 13) pa_nil)) (pa_cons (pe_call GW r1 (by rfl) gW kW bW .nil pass0 (pa_cons (pe_ix ix_tup (pv 0) pe_int (fun _ _ => rfl)) (pa_cons (pv 13) pa_nil))) pa_nil))))))) pss_nil)
          (pss_one (ps_expr (pe_meth (pv 5) T.cl MM GM r1 bM .nil pass0 (pa_cons (pv 12) (pa_cons (pv 6) (pa_cons (pv 11) pa_nil))))))))
        (pss_one (ps_aug (i := 6) sc_at_most.nd rfl (.inl rfl) pe_int ip_add))))))
      (pss_one (ps_ret (pe_tup (pa_cons pe_str (pa_cons (pe_fld (pv 5) rfl) pa_nil)))))))))), ?_⟩
    refine ⟨.ref R1, rfl, .ref R2, rfl, R1, R2, m1, m2, o1, o2, ds1, ds2, rfl, hr1, hr2, ok1, ok2, fun em => ?_, fun ne => qE (fun z => ne (congrArg Int.ofNat z)) H (Same.refl H)⟩
    obtain rfl : m1 = m2 := Int.ofNat.inj em
    obtain ⟨qA, qB⟩ := q rfl
    have m3 := ok1.m3
    have l81 := ok1.len
    have l82 := ok2.len
    obtain ⟨Dd1, rs1, eR1, eDd1, hd1⟩ := id hr1
    refine ⟨.ref R1, rfl, R1, _, 0, .int m1, rfl, rfl, SqT.of eR1, rfl, m1, rfl, by omega, fun H1 Ch fs s1 nCh eCh hf => ?_⟩
    have fl : fs.length = 2 ^ m1 := by rw [awLen hf, allB_len]
    intro D1 hD1 D2 hD2
    have sD1 := same_new (o := .dT []) hD1
    have sD2 := same_new (o := .dT []) hD2
    have n12 : D1 ≠ D2 := fun z => by rw [← z, upd_same] at hD2; cases hD2
    have sD := sD1.trans sD2
    have eD1 : upd (upd H1 D1 (.dT [])) D2 (.dT []) D1 = some (.dT []) := by
      rw [upd_ne n12]
      exact upd_same
    have eD2 : upd (upd H1 D1 (.dT [])) D2 (.dT []) D2 = some (.dT []) := upd_same
    obtain ⟨H2, hH2⟩ : ∃ H2, H2 = upd (upd H1 D1 (.dT [])) D2 (.dT []) := ⟨_, rfl⟩
    rw [← hH2] at sD eD1 eD2 ⊢
    have nD1 : H1 D1 = none := hD1
    have nD2 : H1 D2 = none := sD1.free hD2
    have s02 := s1.trans sD
    refine ⟨_, _, rfl, ?_⟩
    refine ⟨.ref R1, rfl, R1, m1, o1, ds1, rfl, (Same.tups s02).row hr1, by omega, fun Ha F1 sa nF1 eF1 => ?_⟩
    refine ⟨.ref R2, rfl, R2, m1, o2, ds2, rfl, (Same.tups (s02.trans sa)).row hr2, by omega, fun Hb F2 sb nF2 eF2 => ?_⟩
    refine ⟨(by show 3 ≤ sizeLine; decide), fun Fi hFi => ?_⟩
    have sFi := same_new (o := .tup [.ref F1, .ref F2, .int 0]) hFi
    have pFi : TrC (upd Hb Fi (.tup [.ref F1, .ref F2, .int 0])) Fi (fst3 ds1 ds2) := ⟨F1, F2, upd_same, sFi _ _ (sb _ _ eF1), sFi _ _ eF2⟩
    obtain ⟨H2b, hH2b⟩ : ∃ H2b, H2b = upd Hb Fi (.tup [.ref F1, .ref F2, .int 0]) := ⟨_, rfl⟩
    rw [← hH2b] at sFi pFi ⊢
    have s22 : Same H2 H2b := sa.trans (sb.trans sFi)
    intro Wk dx nWk ndx nex
    have kW : ∀ c u, H2b c = some u → upd (upd H2b dx (.own Wk)) Wk (.ins C dx []) c = some u := fun c u e => by
      rw [upd_ne (ne_of_none e nWk), upd_ne (ne_of_none e ndx)]
      exact e
    refine ⟨Wk, dx, Fi, kT3 (fst3 ds1 ds2), rfl, upd_same, key3 (pFi.stay fun c xs e => kW _ _ e), fun H3 M N W hw nM nN nW kp => ⟨rfl, ?_⟩⟩
    have s3 : Same H2b H3 := fun c u e => kp c u (ne_of_none e nWk) (kW c u e)
    have s23 := s22.trans s3
    have back : ∀ a : Addr, upd (upd H2b dx (.own Wk)) Wk (.ins C dx []) a = none → H2b a = none := fun a h => by
      cases e : H2b a with
      | none => rfl
      | some u => rw [kW a u e] at h; cases h
    have hM2 := s22.free (back _ nM)
    have hN2 := s22.free (back _ nN)
    have hW2 := s22.free (back _ nW)
    have hM0 := s02.free hM2
    have nD1M : D1 ≠ M := ne_of_none eD1 hM2
    have nD1N : D1 ≠ N := ne_of_none eD1 hN2
    have nD1W : D1 ≠ W := ne_of_none eD1 hW2
    have nD2M : D2 ≠ M := ne_of_none eD2 hM2
    have nD2N : D2 ≠ N := ne_of_none eD2 hN2
    have nD2W : D2 ≠ W := ne_of_none eD2 hW2
    have p8 : 2 ^ m1 ≤ 8 := Nat.le_trans (Nat.pow_le_pow_right (by decide) (show m1 ≤ 3 by omega)) (by decide)
    have kept0 : ∀ (H : Hp) (ds : List Deed) (o : Int), Kept H m1 ds o [] := fun H ds o => ⟨List.nodup_nil, (fun _ z => nomatch z), (fun _ z => nomatch z)⟩
    refine ⟨fun n σ H4 => ∃ y7 y8 y9 y10 y11 y12 y13 ps ts wy es1 es2 cu, σ = [some (.ref R1), some (.ref R2), some (.ref Ch), some (.ref D1), some (.ref D2), some (.ref Wk), some (.int ((cu : Nat) : Int)), y7, y8, y9, y10, y11, y12, y13] ∧ WalkAt P w C H4 Wk M N W ts wy ∧ ts.map (·.1) = ps.map kT3 ∧ BfsG m1 (nx3 ds1 o1 ds2 o2) (gd3 ds1 o1 ds2 o2) (fst3 ds1 ds2) ps wy cu ∧ (∀ j : Nat, cu < ps.length → j < ps.length → dep wy j ≤ dep wy cu + 1) ∧ (∀ q ∈ ps, TcOk ds1 ds2 q) ∧ cu ≤ ps.length ∧ H4 D1 = some (.dT (emb V.ref es1)) ∧ Kept H4 m1 ds1 o1 es1 ∧ (∀ e ∈ es1, e.2 ≠ M ∧ e.2 ≠ W) ∧ H4 D2 = some (.dT (emb V.ref es2)) ∧ Kept H4 m1 ds2 o2 es2 ∧ (∀ e ∈ es2, e.2 ≠ M ∧ e.2 ≠ W) ∧ Same H1 H4 ∧ n = 196609 - cu,
      ⟨_, none, none, none, none, none, none, none, [fst3 ds1 ds2], [(kT3 (fst3 ds1 ds2), Fi)], [(0, [])], [], [], 0, rfl, hw, rfl, bfs_firstG m1 (nx3 ds1 o1 ds2 o2) (gd3 ds1 o1 ds2 o2) (fst3 ds1 ds2), (fun j _ hj => ?_), (fun x hx => by rw [List.mem_singleton.mp hx]; exact tc_first ds1 ds2), Nat.zero_le _, s23 _ _ eD1, kept0 _ _ _, (fun _ z => nomatch z), s23 _ _ eD2, kept0 _ _ _, (fun _ z => nomatch z), sD.trans s23, rfl⟩, fun n σ H4 hp => ?_⟩
    · have : j < 1 := hj
      obtain rfl : j = 0 := by omega
      exact Nat.le_add_right _ _
    obtain ⟨y7, y8, y9, y10, y11, y12, y13, ps, ts, wy, es1, es2, cu, rfl, hw4, ek, hB, hnear, gd, hcu, eD14, kp1, ne1, eD24, kp2, ne2, s4, rfl⟩ := hp
    obtain ⟨dxw, ob4⟩ := hw4.ob
    have psl := keys_len3 ek
    have fw := few_trip8 (keys_nd3 hw4.nd ek) gd l81 l82
    refine ⟨.int (cu : Int), rfl, .ref Wk, rfl, Wk, C, dxw, _, _, rfl, ob4, T.cl, T.nM, wF_met _ _ _, M, _, rfl, .inl (.inl (.inl hw4.met)), _, _, rfl, rfl, _, rfl, ite2 (fun e => ?_) (fun e => ?_)⟩
    · have lt : cu < ps.length := by
        have := of_decide_eq_true e
        rw [List.length_map] at this
        omega
      refine ⟨fun σ' H' => ∃ m', m' < 196609 - cu ∧ (∃ y7 y8 y9 y10 y11 y12 y13 ps ts wy es1 es2 cu, σ' = [some (.ref R1), some (.ref R2), some (.ref Ch), some (.ref D1), some (.ref D2), some (.ref Wk), some (.int ((cu : Nat) : Int)), y7, y8, y9, y10, y11, y12, y13] ∧ WalkAt P w C H' Wk M N W ts wy ∧ ts.map (·.1) = ps.map kT3 ∧ BfsG m1 (nx3 ds1 o1 ds2 o2) (gd3 ds1 o1 ds2 o2) (fst3 ds1 ds2) ps wy cu ∧ (∀ j : Nat, cu < ps.length → j < ps.length → dep wy j ≤ dep wy cu + 1) ∧ (∀ q ∈ ps, TcOk ds1 ds2 q) ∧ cu ≤ ps.length ∧ H' D1 = some (.dT (emb V.ref es1)) ∧ Kept H' m1 ds1 o1 es1 ∧ (∀ e ∈ es1, e.2 ≠ M ∧ e.2 ≠ W) ∧ H' D2 = some (.dT (emb V.ref es2)) ∧ Kept H' m1 ds2 o2 es2 ∧ (∀ e ∈ es2, e.2 ≠ M ∧ e.2 ≠ W) ∧ Same H1 H' ∧ m' = 196609 - cu), fun σ' H' z => z, ?_⟩
      have hti : cu < ts.length := by omega
      obtain ⟨q0, hq0, ht1⟩ := keys_at3 ek (List.getElem?_eq_getElem hti)
      have hkey := hw4.keys _ (List.getElem_mem hti)
      rw [ht1] at hkey
      obtain ⟨A, B, ecb, eA, eB⟩ := trC_of hkey.1
      have pq0 := gd q0 (List.mem_of_getElem? hq0)
      have pq := pq0.p
      refine ⟨.ref Wk, rfl, Wk, C, dxw, _, _, rfl, ob4, T.cl, T.nM, wF_met _ _ _, .int _, rfl, M, _, _, .ref (ts[cu]).2, rfl, rfl, .inl (.inl hw4.met), atI_nat (by rw [List.getElem?_map, List.getElem?_eq_getElem hti]; rfl), ?_⟩
      generalize (ts[cu]).2 = cb at ecb
      refine ⟨cb, [.ref A, .ref B, .int q0.2], rfl, .inl (.inl ecb), rfl, .ref A, [.ref B, .int q0.2], rfl, .ref B, [.int q0.2], rfl, .int q0.2, [], rfl, rfl, ?_⟩
      have rowT1 : RowAt H4 R1 m1 ds1 o1 := (Same.tups (s1.trans s4)).row hr1
      have rowT2 : RowAt H4 R2 m1 ds2 o2 := (Same.tups (s1.trans s4)).row hr2
      refine ⟨.ref D1, rfl, .ref R1, rfl, .ref A, rfl, D1, R1, A, m1, o1, ds1, q0.1.1, es1, rfl, eD14, kp1, rowT1, ok1, eA, pq.l1, pq.b1, fun H5 p1 ps1 es1' bt1 eD15 kp15 sub1 new1 mem1 ep1 st1 => ?_⟩
      have t45 : TupsStay H4 H5 := fun b xs e => bt1 b _ (ne_of e eD14 (fun z => nomatch z)) e
      have kp25 : Kept H5 m1 ds2 o2 es2 := ⟨kp2.nd, kp2.bits, fun e he => by
        obtain ⟨pp, h1, h2⟩ := kp2.each e he
        exact ⟨pp, bt1 _ _ (ne_of h1 eD14 (fun z => nomatch z)) h1, stat_stay t45 h2⟩⟩
      refine ⟨.ref D2, rfl, .ref R2, rfl, .ref B, rfl, D2, R2, B, m1, o2, ds2, q0.1.2, es2, rfl, bt1 _ _ n12.symm eD24, kp25, t45.row rowT2, ok2, t45 _ _ eB, pq.l2, pq.b2, fun H6 p2 ps2 es2' bt2 eD26 kp26 sub2 new2 mem2 ep2 st2 => ?_⟩
      have eD25 := bt1 _ _ n12.symm eD24
      have t56 : TupsStay H5 H6 := fun b xs e => bt2 b _ (ne_of e eD25 (fun z => nomatch z)) e
      have kp16 : Kept H6 m1 ds1 o1 es1' := ⟨kp15.nd, kp15.bits, fun e he => by
        obtain ⟨pp, h1, h2⟩ := kp15.each e he
        exact ⟨pp, bt2 _ _ (ne_of h1 eD25 (fun z => nomatch z)) h1, stat_stay t56 h2⟩⟩
      have ep16 : H6 p1 = some (.lst (ps1.map V.ref)) := bt2 _ _ (ne_of ep1 eD25 (fun z => nomatch z)) ep1
      refine ⟨p1, p2, _, _, rfl, ⟨ps1, ep16, stat_stay t56 st1⟩, ⟨ps2, ep2, st2⟩, by rw [stp_len, stp_len], by rw [stp_len]; exact p8, fun H7a Bo0 bo0 s7a nBo0 eBo0 hbo0 => ?_⟩
      have zl : ((stp m1 ds1 o1 q0.1.1).zip (stp m1 ds2 o2 q0.1.2)).length = 2 ^ m1 := by rw [List.length_zip, stp_len, stp_len, Nat.min_self]
      have bz : ∀ e ∈ (stp m1 ds1 o1 q0.1.1).zip (stp m1 ds2 o2 q0.1.2), Bit e.1.1 ∧ Bit e.2.1 := fun e he => ⟨stp_bits ok1 pq.l1 pq.b1 _ (List.of_mem_zip he).1, stp_bits ok2 pq.l2 pq.b2 _ (List.of_mem_zip he).2⟩
      refine ⟨.ref Ch, rfl, .int q0.2, rfl, .ref Bo0, rfl, q0.2, Bo0, bo0, _, rfl, eBo0, hbo0, bz, by rw [zl]; exact p8, fun H7 Bo bo s7b nBo' eBo hbo => ?_⟩
      have s7 := s7a.trans s7b
      have nBo : H6 Bo = none := s7a.free nBo'
      have zsl : bo.length = 2 ^ m1 := by rw [awLen hbo, List.length_map, zl]
      have k46 : ∀ b u, b ≠ D1 → b ≠ D2 → H4 b = some u → H6 b = some u := fun b u n1 n2 e => bt2 b u n2 (bt1 b u n1 e)
      have k47 : ∀ b u, b ≠ D1 → b ≠ D2 → H4 b = some u → H7 b = some u := fun b u n1 n2 e => s7 b u (k46 b u n1 n2 e)
      have t47 : TupsStay H4 H7 := fun b xs e => k47 b _ (ne_of e eD14 (fun z => nomatch z)) (ne_of e eD24 (fun z => nomatch z)) e
      obtain ⟨ws4, eW4, _⟩ := id hw4.ways
      have hw7 : WalkAt P w C H7 Wk M N W ts wy := hw4.stay t47 fun c u hc e => by
        rcases hc with rfl | rfl | rfl | rfl
        · exact k47 _ _ (ne_of ob4 eD14 (fun z => nomatch z)) (ne_of ob4 eD24 (fun z => nomatch z)) e
        · exact k47 _ _ nD1M.symm nD2M.symm e
        · exact k47 _ _ nD1N.symm nD2N.symm e
        · exact k47 _ _ nD1W.symm nD2W.symm e
      have s17 : Same H1 H7 := fun b u e => k47 b u (ne_of_none e nD1) (ne_of_none e nD2) (s4 b u e)
      have eD17 : H7 D1 = some (.dT (emb V.ref es1')) := s7 _ _ (bt2 _ _ n12 eD15)
      have eD27 : H7 D2 = some (.dT (emb V.ref es2')) := s7 _ _ eD26
      have nBM : Bo ≠ M := fun z => by rw [z, k46 _ _ nD1M.symm nD2M.symm hw4.met] at nBo; cases nBo
      have nBN : Bo ≠ N := fun z => by rw [z, k46 _ _ nD1N.symm nD2N.symm hw4.num.ob] at nBo; cases nBo
      have nBW : Bo ≠ W := fun z => by rw [z, k46 _ _ nD1W.symm nD2W.symm eW4] at nBo; cases nBo
      have ne1' : ∀ e ∈ es1', e.2 ≠ M ∧ e.2 ≠ W := fun e he => by
        rcases new1 e he with h | h
        · exact ne1 e h
        · exact ⟨(fun z => by rw [z, hw4.met] at h; cases h), (fun z => by rw [z, eW4] at h; cases h)⟩
      have ne2' : ∀ e ∈ es2', e.2 ≠ M ∧ e.2 ≠ W := fun e he => by
        rcases new2 e he with h | h
        · exact ne2 e h
        · exact ⟨(fun z => by rw [z, bt1 _ _ nD1M.symm hw4.met] at h; cases h), (fun z => by rw [z, bt1 _ _ nD1W.symm eW4] at h; cases h)⟩
      have eCh7 := s17 _ _ eCh
      have nChM : Ch ≠ M := ne_of_none (sD _ _ eCh) hM2
      have nChN : Ch ≠ N := ne_of_none (sD _ _ eCh) hN2
      have nChW : Ch ≠ W := ne_of_none (sD _ _ eCh) hW2
      refine ⟨Ch, Bo, _, _, rfl, .inl (.inl eCh7), .inl (.inl eBo), for_it (walk_zip (K := K) (a := Ch) (b := Bo) (xs := fs.map V.ref) (ys := bo.map V.ref) (n := 2 ^ m1) (by rw [List.length_map, List.length_map, fl, zsl, Nat.min_self])) (fun j σ H8 => ∃ y11 y12 ps' ts' wy', σ = [some (.ref R1), some (.ref R2), some (.ref Ch), some (.ref D1), some (.ref D2), some (.ref Wk), some (.int ((cu : Nat) : Int)), some (.ref A), some (.ref B), some (.int q0.2), some (.ref Bo0), y11, y12, y13] ∧ WalkAt P w C H8 Wk M N W ts' wy' ∧ ts'.map (·.1) = ps'.map kT3 ∧ BfsPG m1 (nx3 ds1 o1 ds2 o2) (gd3 ds1 o1 ds2 o2) (fst3 ds1 ds2) ps' wy' cu j q0 ∧ (∀ q ∈ ps', TcOk ds1 ds2 q) ∧ ∀ b u, b ≠ M → b ≠ N → b ≠ W → H7 b = some u → H8 b = some u)
        ⟨y11, y12, ps, ts, wy, rfl, hw7, ek, ⟨hB, hq0, fun j hj => hnear j lt hj, (fun _ z => by rw [List.take_zero] at z; cases z)⟩, gd, fun _ _ _ _ _ z => z⟩ (fun j σ H8 _ hp => ?_) (fun j x σ H8 H9 hj hp hy => ?_) (fun σ H8 hp => ?_)⟩
      · obtain ⟨_, _, _, _, _, _, _, _, _, _, st⟩ := hp
        exact ⟨.inl (.inl (st _ _ nChM nChN nChW eCh7)), .inl (.inl (st _ _ nBM nBN nBW eBo))⟩
      · obtain ⟨y11, y12, ps', ts', wy', rfl, hw8, ek8, hBP, gd8, st⟩ := hp
        obtain ⟨U, x1, x2, rfl, hU, rfl, gg1, gg2⟩ := hy
        have tup7 : ∀ b xs, H7 b = some (.tup xs) → H8 b = some (.tup xs) := fun b xs e => st b _ (ne_of e hw7.met (fun y => nomatch y)) (ne_of e hw7.num.ob (fun y => nomatch y)) (by obtain ⟨ws, e2, _⟩ := hw7.ways; exact ne_of e e2 (fun y => nomatch y)) e
        have hjf : j < fs.length := by omega
        have hjp : j < bo.length := by omega
        have e1 : x1 = .ref fs[j] := by
          have g1' : (fs.map V.ref)[j]? = some x1 := gg1
          rw [List.getElem?_map, List.getElem?_eq_getElem hjf] at g1'
          exact (Option.some.inj g1').symm
        have e2 : x2 = .ref bo[j] := by
          have g2' : (bo.map V.ref)[j]? = some x2 := gg2
          rw [List.getElem?_map, List.getElem?_eq_getElem hjp] at g2'
          exact (Option.some.inj g2').symm
        subst e1 e2
        obtain ⟨bs, hb1, hb2⟩ := awGet hf (List.getElem?_eq_getElem hjf)
        obtain ⟨tr, hs1, hs2⟩ := awGet hbo (List.getElem?_eq_getElem hjp)
        obtain rfl := zip_stp3 hs1 hb1
        have sU := same_new (o := .tup [.ref fs[j], .ref (bo[j])]) hU
        have eb9 := sU _ _ (tup7 _ _ (s17 _ _ hb2))
        have pac := (hs2.stay tup7).stay (Same.tups sU)
        obtain ⟨ac, hac⟩ : ∃ ac, ac = bo[j] := ⟨_, rfl⟩
        rw [← hac] at pac sU eb9 ⊢
        have eUU : upd H8 U (.tup [.ref fs[j], .ref ac]) U = some (.tup [.ref fs[j], .ref ac]) := upd_same
        refine ⟨U, [.ref fs[j], .ref ac], rfl, .inl (.inl eUU), rfl, .ref fs[j], [.ref ac], rfl, .ref ac, [], rfl, rfl, ?_⟩
        obtain ⟨c1, c2, eac, eac1, eac2⟩ := id pac
        obtain ⟨dx8, ob8⟩ := hw8.ob
        have hw9 := hw8.same sU
        have l8 := keys_len3 ek8
        have few8 := few_trip8 (keys_nd3 hw8.nd ek8) gd8 l81 l82
        have wl := hBP.bfs.len
        have hb' : bs ∈ allB m1 := List.mem_of_getElem? hb1
        have hcl := (List.getElem?_eq_some_iff.mp hBP.here).1
        refine ⟨.ref ac, rfl, ac, _, 2, .int (nx3 ds1 o1 ds2 o2 q0 bs).2, rfl, rfl, SqT.of eac, rfl, rfl, _, rfl, ite2 (fun hne => ?_) (fun heq => ?_)⟩
        · have hne' := intEq hne
          refine ⟨.ref Wk, rfl, Wk, dx8, _, rfl, sU _ _ ob8, wF_no _ _ _ (by decide +kernel) (by decide +kernel) (by decide +kernel), .int (cu : Int), rfl, Wk, M, N, W, ts', wy', cu, rfl, hw9, by omega, by omega, hBP.bfs.ways, fun Hx L bl sx nL eL hbl => ?_⟩
          have pl := pth_le3 wy' cu cu
          have plE : (path wy' cu).length ≤ cu := pl
          have bll := awLen hbl
          refine ⟨.ref fs[j], rfl, (by show 1 ≤ sizeLine; decide), fun L2' hL2 => ?_⟩
          have sL2 := same_new (o := .lst [.ref fs[j]]) hL2
          refine ⟨L, L2', _, _, rfl, rfl, sL2 _ _ eL, upd_same, ?_, fun Cc hCc => ?_⟩
          · rw [List.length_map, sizeLine_eq]
            show bl.length + 1 ≤ _
            omega
          have sCc := same_new (o := .lst (bl.map V.ref ++ [V.ref fs[j]])) hCc
          obtain ⟨Hy, hHy⟩ : ∃ Hy, Hy = upd (upd Hx L2' (.lst [.ref fs[j]])) Cc (.lst (bl.map V.ref ++ [V.ref fs[j]])) := ⟨_, rfl⟩
          have eCc : Hy Cc = some (.lst ((bl ++ [fs[j]]).map V.ref)) := by
            rw [hHy, upd_same, List.map_append]
            rfl
          have s9y : Same (upd H8 U (.tup [.ref fs[j], .ref ac])) Hy := by
            rw [hHy]
            exact sx.trans (sL2.trans sCc)
          have sxy : Same Hx Hy := by
            rw [hHy]
            exact sL2.trans sCc
          rw [← hHy]
          have tat : TAt Hy (bl ++ [fs[j]]) (path wy' cu ++ [bs]) := awSnoc (F := fun (f : Addr) (b : List Int) => Hy f = some (.tup (b.map V.int))) (s9y _ _ eb9) (tat_stay (Same.tups sxy) hbl)
          have tl := awLen tat
          obtain ⟨pp1, _⟩ := bfs_pathG hBP.bfs cu cu q0 (Nat.le_refl _) hBP.here
          have hall : ∀ c ∈ path wy' cu ++ [bs], c.length = m1 ∧ ∀ x ∈ c, Bit x := fun c hc => by
            rcases List.mem_append.mp hc with z | z
            · exact allB_ok m1 c (pp1 c z)
            · rw [List.mem_singleton.mp z]
              exact allB_ok m1 bs hb'
          have kH : ∀ b u, b ≠ M → b ≠ N → b ≠ W → H7 b = some u → Hy b = some u := fun b u n1 n2 n3 e => s9y _ _ (sU _ _ (st b u n1 n2 n3 e))
          have s1y : Same H1 Hy := fun b u e => kH b u (ne_of_none (sD _ _ e) hM2) (ne_of_none (sD _ _ e) hN2) (ne_of_none (sD _ _ e) hW2) (s17 _ _ e)
          refine ⟨.ref Cc, rfl, Cc, _, rfl, .inl (.inl (.inl eCc)), .ref R1, rfl, R1, _, 0, .int m1, rfl, rfl, SqT.of (s1y _ _ (s1 _ _ eR1)), rfl, .ref Cc, rfl, m1, Cc, bl ++ [fs[j]], _, rfl, by omega, eCc, tat, ?_, hall, fun Hz Lw sz nLw eLw => ?_⟩
          · rw [List.length_append]
            show _ + 1 ≤ _
            omega
          refine ⟨(by show 3 ≤ sizeLine; decide), fun Tt hTt => ?_⟩
          have sT := same_new (o := .tup [.str "greater", .int (((bl ++ [fs[j]]).map V.ref).length : Nat), .ref Lw]) hTt
          have s0z : Same H Hz := s1.trans (s1y.trans sz)
          refine qB _ Tt Lw ps' wy' cu q0 bs (s0z.trans sT) (s0z.free hTt) ((s1.trans s1y).free nLw) ?_ (sT _ _ eLw) hBP.bfs hBP.here hb' hne' (by omega)
          rw [upd_same, List.length_map, tl]
        · have heq' : gd3 ds1 o1 ds2 o2 q0 bs := intNe heq
          refine ⟨.ref Wk, rfl, Wk, dx8, _, rfl, sU _ _ ob8, wF_meet _ _ _, .ref ac, rfl, .int (cu : Int), rfl, .ref fs[j], rfl, Wk, M, N, W, ac, fs[j], ts', wy', kT3 (nx3 ds1 o1 ds2 o2 q0 bs), (cu : Int), bs, rfl, hw9, key3 pac, eb9, by omega, fun Hx ts2 wy2 ix hwx hix hcase kpx => ?_⟩
          obtain ⟨b', hb2'⟩ := hix
          have hst : ∀ b u, b ≠ M → b ≠ N → b ≠ W → H7 b = some u → Hx b = some u := fun b u n1 n2 n3 e => kpx b u n1 n2 n3 (sU _ _ (st b u n1 n2 n3 e))
          rcases hcase with ⟨rfl, rfl⟩ | ⟨rfl, rfl, rfl, _⟩
          · obtain ⟨c, hc, ec⟩ := keys_at3 ek8 hb2'
            rw [← kT3_inj ec] at hc
            exact ⟨_, _, ps', _, _, rfl, hwx, ek8, bfsp_oldG hBP hb1 heq' hc, gd8, hst⟩
          · refine ⟨_, _, ps' ++ [nx3 ds1 o1 ds2 o2 q0 bs], _, _, rfl, hwx, by rw [List.map_append, List.map_append, ek8]; rfl, bfsp_newG hBP hb1 heq', fun c hc => ?_, hst⟩
            rcases List.mem_append.mp hc with hc | hc
            · exact gd8 c hc
            · rw [List.mem_singleton.mp hc]
              exact nx3_ok pq0 hb'
      · obtain ⟨y11, y12, ps', ts', wy', rfl, hw8, ek8, hBP, gd8, st⟩ := hp
        rw [← allB_len m1] at hBP
        obtain ⟨hB', near'⟩ := bfsp_doneG hBP
        have hcl := (List.getElem?_eq_some_iff.mp hBP.here).1
        have tup7 : TupsStay H7 H8 := fun b xs e => st b _ (ne_of e hw7.met (fun y => nomatch y)) (ne_of e hw7.num.ob (fun y => nomatch y)) (by obtain ⟨ws, e2, _⟩ := hw7.ways; exact ne_of e e2 (fun y => nomatch y)) e
        have kk : ∀ {ds : List Deed} {o : Int} {es : List (List Int × Addr)}, Kept H6 m1 ds o es → (∀ e ∈ es, e.2 ≠ M ∧ e.2 ≠ W) → Kept H8 m1 ds o es := fun {ds o es} kp ne => ⟨kp.nd, kp.bits, fun e he => by
          obtain ⟨pp, h1, h2⟩ := kp.each e he
          have h17 := s7 _ _ h1
          exact ⟨pp, st _ _ (ne e he).1 (ne_of h17 hw7.num.ob (fun z => nomatch z)) (ne e he).2 h17, stat_stay tup7 (stat_stay (Same.tups s7) h2)⟩⟩
        refine ⟨.int (cu : Int), rfl, _, _, rfl, rfl, 196609 - (cu + 1), ?_, _, _, _, _, _, _, _, ps', ts', wy', es1', es2', cu + 1, rfl, hw8, ek8, hB', fun j h1 h2 => near' j h1 h2, gd8, by omega, st _ _ nD1M nD1N nD1W eD17, kk kp16 ne1', ne1', st _ _ nD2M nD2N nD2W eD27, kk kp26 ne2', ne2', fun b u e => st b u (ne_of_none (sD _ _ e) hM2) (ne_of_none (sD _ _ e) hN2) (ne_of_none (sD _ _ e) hW2) (s17 _ _ e), rfl⟩
        have := few_trip8 (keys_nd3 hw8.nd ek8) gd8 l81 l82
        omega
    · have nlt : ¬ cu < ps.length := fun z => e (by
        apply decide_eq_true
        rw [List.length_map]
        omega)
      obtain rfl : cu = ps.length := by omega
      refine ⟨.ref Wk, rfl, Wk, C, dxw, _, _, rfl, ob4, T.cl, T.nM, wF_met _ _ _, (by show 2 ≤ sizeLine; decide), fun Tt hTt => ?_⟩
      have sT := same_new (o := .tup [.str "most", .ref M]) hTt
      have s04 := s1.trans s4
      refine qA _ Tt M (ts.map (·.2)) ps wy (s04.trans sT) (s04.free hTt) hM0 upd_same ?_ (ttat_stay (Same.tups sT) (walk_tt hw4 ek)) hB (keys_nd3 hw4.nd ek) gd
      have := sT _ _ hw4.met
      rw [this, List.map_map]
      rfl
theorem shl1W {n : Nat} (h : n ≤ 1000000) : CShl 1 (n : Int) := ⟨by omega, by
  have e : Builtin.Int.intBits 1 = 1 := by decide +kernel
  rw [e]
  have : (2 : Int) ^ 27 = 134217728 := by decide
  omega⟩
def spCsX (cR : Addr) : Sp := fun vs H Q E => ∃ (R : Addr) (m o : Int) (ds : List Deed), vs = [.ref R] ∧ RowAt H R m ds o ∧ RowOk m ds o ∧ (m = 1 → Q .non H) ∧ (¬ m = 1 → E (.ref cR) none H)
theorem ok_csX {f cR : Addr} {fd : FuncData} {k : Nat} (F : Fun K "check_single" "check_single" s_check_single f fd) (rP : Rai K mg "NoRow" cR) : FnOk P w K mg base (L2.CX P w) (k + 1) f fd ["row"] (spCsX cR) := by
  refine F.okX sc_check_single (fun vs H Q E h => ?_) (fun cdv A outer s H vs Q E hr h => ?_)
  · obtain ⟨R, m, o, ds, rfl, _⟩ := h
    rfl
  · obtain ⟨R1, m1, o1, ds1, rfl, hr1, ok1, q, qE⟩ := h
    obtain ⟨D1, rs1, e1, _, _⟩ := id hr1
    refine ⟨_, pss_one (ps_if (pt_cmpR op_ne (pe_ix ix_tup (pv 0) pe_int (fun _ _ => rfl)) pe_int (nomark _))
        (pss_one (ps_raise rfl (takes_of rfl rfl rfl rfl) (SkE.pmk_own1 PySem.F.excBase_ValueError rP.q rP.g rP.k (raises_own rP.s rP.t) (by rfl) (pe_joined (.cons pe_str (.cons (pe_fmt (pe_ix ix_tup (pv 0) pe_int (fun _ _ => rfl))) (.cons pe_str .nil))))))) pss_nil), ?_⟩
    have a1 := ok1.m1
    have a3 := ok1.m3
    refine ⟨.ref R1, rfl, R1, _, 0, .int m1, rfl, rfl, SqT.of e1, row0, rfl, _, rfl, ite2 (fun hne => ?_) (fun heq => ?_)⟩
    · have l1 : m1.natAbs < 1000 := by omega
      have j0 := js_len (acc := Str.empty) (y := "a row of ") (a := 0) (b := 9) (by decide) (by decide +kernel) (by decide)
      have j1 := js_len j0.2 (b := 4) (iX_len l1) (by decide)
      have j2 := js_len (y := " inputs, where one of a single input is asked for") j1.2 (b := 60) (by decide +kernel) (by decide)
      exact ⟨_, rfl, j0.1, .ref R1, rfl, R1, _, 0, .int m1, rfl, rfl, SqT.of e1, row0, .inr ⟨m1, rfl, log_small l1, _, rfl, j1.1, _, rfl, j2.1, qE (neT hne)⟩⟩
    · exact q (neF heq)
def gdC (ds : List Deed) (o : Int) (c _bs : List Int) : Prop := ¬ ob ds o c [0] = ob ds o c [1]
def fCc (ds : List Deed) : List Int := ds.map fcD
structure CcOk (ds : List Deed) (c : List Int) : Prop where
  l : c.length = ds.length
  b : ∀ x ∈ c, Bit x
theorem nc_ok {m : Nat} {ds : List Deed} {c bs : List Int} (h : CcOk ds c) (hb : bs ∈ allB m) : CcOk ds (nc ds c bs) := ⟨nxt_len h.l.symm, nxt_bits (bts_bits (allB_ok m bs hb).2 h.b) h.b⟩
theorem cc_first (ds : List Deed) : CcOk ds (fCc ds) := ⟨(rch_shp (crry_rch ds [] 0)).len, (rch_shp (crry_rch ds [] 0)).bits⟩
theorem few_cc {ds : List Deed} {cs : List (List Int)} (nd : cs.Nodup) (h : ∀ c ∈ cs, CcOk ds c) (l8 : ds.length ≤ 8) : cs.length ≤ 256 := by
  have le := pigeon cs (allB ds.length) nd fun c hc => allB_all _ c (h c hc).l (h c hc).b
  rw [allB_len] at le
  have : 2 ^ ds.length ≤ 256 := Nat.le_trans (Nat.pow_le_pow_right (by decide) l8) (by decide)
  omega
theorem keys_atC {cs : List (List Int)} {ts : List WT} (e : ts.map (·.1) = cs.map kC) {i : Nat} {t : WT} (h : ts[i]? = some t) : ∃ c, cs[i]? = some c ∧ t.1 = kC c := by
  have h1 : (ts.map (·.1))[i]? = some t.1 := by rw [List.getElem?_map, h]; rfl
  rw [e, List.getElem?_map] at h1
  cases hc : cs[i]? with
  | none => rw [hc] at h1; cases h1
  | some c => rw [hc] at h1; exact ⟨c, rfl, (Option.some.inj h1).symm⟩
theorem keys_lenC {cs : List (List Int)} {ts : List WT} (e : ts.map (·.1) = cs.map kC) : ts.length = cs.length := by
  have := congrArg List.length e
  rwa [List.length_map, List.length_map] at this
theorem keys_ndC {cs : List (List Int)} {ts : List WT} (h : (ts.map (·.1)).Nodup) (e : ts.map (·.1) = cs.map kC) : cs.Nodup := by
  rw [e] at h
  exact List.Pairwise.imp (fun {a b} z y => z (congrArg kC y)) (List.pairwise_map.mp h)
theorem keyC_tup' {H : Hp} {b : Addr} {c : List Int} (h : KeyN H (.ref b) (kC c)) : H b = some (.tup (c.map V.int)) := by
  obtain ⟨A, e, h2⟩ := kC_at h.1
  rw [V.ref.inj e]
  exact h2
theorem walk_tc {C p M N W : Addr} {H : Hp} {ts : List WT} {wy : List (Int × List Int)} {cs : List (List Int)} (h : WalkAt P w C H p M N W ts wy) (e : ts.map (·.1) = cs.map kC) : TAt H (ts.map (·.2)) cs := by
  have key : ∀ {l : List WT} {qs : List (List Int)}, (∀ t ∈ l, KeyN H (.ref t.2) t.1) → l.map (·.1) = qs.map kC → TAt H (l.map (·.2)) qs := by
    intro l
    induction l with
    | nil =>
      intro qs _ e
      cases qs with
      | nil => exact .nil
      | cons a b => cases e
    | cons t l ih =>
      intro qs hk e
      cases qs with
      | nil => cases e
      | cons a b =>
        rw [List.map_cons, List.map_cons, List.cons.injEq] at e
        refine .cons ?_ (ih (fun x hx => hk x (List.mem_cons_of_mem _ hx)) e.2)
        have := hk t List.mem_cons_self
        rw [e.1] at this
        exact keyC_tup' this
  exact key h.keys e
theorem runC_fold (ds : List Deed) : ∀ (bs : List (List Int)) (c : List Int), bs.foldl (nc ds) c = runC ds c bs
  | [], _ => rfl
  | x :: bs, c => runC_fold ds bs (nc ds c x)
/-- words that differ in their highest bit only, where out tells one bit for both -/
theorem meet_worth {ds : List Deed} {o : Int} {cs : List (List Int)} (ok : RowOk (1 : Nat) ds o) (hall : ∀ c ∈ cs, c.length = 1 ∧ ∀ x ∈ c, Bit x) (he : ob ds o (runC ds (ds.map fcD) cs) [0] = ob ds o (runC ds (ds.map fcD) cs) [1]) :
    (vals (2 ^ (cs.length + 1)) ds (wofL 1 (cs ++ [[0]]))).getD o.toNat 0 = (vals (2 ^ (cs.length + 1)) ds (wofL 1 (cs ++ [[1]]))).getD o.toNat 0 := by
  have hb : ∀ b : Int, Bit b → ∀ c ∈ cs ++ [[b]], c.length = 1 ∧ ∀ x ∈ c, Bit x := fun b hb c hc => by
    rcases List.mem_append.mp hc with z | z
    · exact hall c z
    · rw [List.mem_singleton.mp z]
      exact ⟨rfl, fun x hx => by rw [List.mem_singleton.mp hx]; exact hb⟩
  have hl : ∀ b : Int, (cs ++ [[b]]).length = cs.length + 1 := fun b => by rw [List.length_append]; rfl
  have hx : ∀ b : Int, Bit b → ∀ x ∈ wofL 1 (cs ++ [[b]]), 0 ≤ x ∧ x < 2 ^ (cs.length + 1) := fun b hb' => by
    have := wofL_range (hb b hb')
    rwa [hl] at this
  have bt : ∀ (b : Int), Bit b → ∀ t, t < cs.length + 1 → bitA t ((vals (2 ^ (cs.length + 1)) ds (wofL 1 (cs ++ [[b]]))).getD o.toNat 0) = ob ds o (runC ds (ds.map fcD) ((cs ++ [[b]]).take t)) ((cs ++ [[b]]).getD t []) := fun b hb' t ht => by
    have h1 := ob_bit (t := t) ok (wofL_len 1 (cs ++ [[b]])) (hx b hb') ht
    have hg : (cs ++ [[b]])[t]? = some ((cs ++ [[b]]).getD t []) := by
      rw [List.getD_eq_getElem?_getD, List.getElem?_eq_getElem (by rw [hl]; exact ht)]
      rfl
    rw [crry_run (hb b hb') _ (by rw [hl]; omega), wofL_bits (hb b hb') hg] at h1
    exact h1.symm
  have e := bits_eq (v := (vals (2 ^ (cs.length + 1)) ds (wofL 1 (cs ++ [[0]]))).getD o.toNat 0) (u := (vals (2 ^ (cs.length + 1)) ds (wofL 1 (cs ++ [[1]]))).getD o.toNat 0) (cs.length + 1) fun t ht => by
    rw [bt 0 bit0 t ht, bt 1 bit1 t ht]
    by_cases h : t < cs.length
    · rw [List.take_append_of_le_length (by omega), List.take_append_of_le_length (by omega), List.getD_eq_getElem?_getD, List.getD_eq_getElem?_getD, List.getElem?_append_left h, List.getElem?_append_left h]
    · obtain rfl : t = cs.length := by omega
      rw [List.take_left, List.take_left, List.getD_eq_getElem?_getD, List.getD_eq_getElem?_getD, List.getElem?_append_right (Nat.le_refl _), List.getElem?_append_right (Nat.le_refl _), Nat.sub_self]
      exact he
  rwa [wr_range ok (wofL_len _ _) (hx 0 bit0), wr_range ok (wofL_len _ _) (hx 1 bit1)] at e
theorem wof_one (cs : List (List Int)) (b : Int) : wofL 1 (cs ++ [[b]]) = [colW cs 0 + b * 2 ^ cs.length] := by
  show [colW (cs ++ [[b]]) 0] = _
  rw [colW_snoc]
  rfl
theorem pth_leT (wy : List (Int × List Int)) : ∀ f i, (pth wy f i).length ≤ f
  | 0, _ => Nat.le_refl _
  | f + 1, i => by
    show (if i = 0 then [] else match wy[i]? with | some e => pth wy f e.1.toNat ++ [e.2] | none => []).length ≤ _
    by_cases h : i = 0
    · rw [if_pos h]; exact Nat.zero_le _
    · rw [if_neg h]
      cases wy[i]? with
      | none => exact Nat.zero_le _
      | some e =>
        dsimp only
        rw [List.length_append]
        have := pth_leT wy f e.1.toNat
        show _ + 1 ≤ _
        omega
def spTu (cR : Addr) : Sp := fun vs H Q E => ∃ (R : Addr) (m : Nat) (o : Int) (ds : List Deed), vs = [.ref R] ∧ RowAt H R m ds o ∧ RowOk m ds o ∧
  (m = 1 → (∀ H' T M as cs wy, Same H H' → H T = none → H M = none → H' T = some (.tup [.str "turned", .ref M]) → H' M = some (.lst (as.map V.ref)) → TAt H' as cs → BfsG 1 (nc ds) (gdC ds o) (fCc ds) cs wy cs.length → cs.Nodup → (∀ c ∈ cs, CcOk ds c) → Q (.ref T) H') ∧
    (∀ H' T cs wy cu c, Same H H' → H T = none → H' T = some (.tup [.str "meet", .int (((path wy cu).length : Nat) + 1), .int (colW (path wy cu) 0), .int (colW (path wy cu) 0 + 2 ^ (path wy cu).length)]) → BfsG 1 (nc ds) (gdC ds o) (fCc ds) cs wy cu → cs[cu]? = some c → ob ds o c [0] = ob ds o c [1] → (path wy cu).length ≤ 256 → Q (.ref T) H')) ∧
  (¬ m = 1 → ∀ H', Same H H' → E (.ref cR) none H')
set_option maxHeartbeats 4000000 in
theorem ok_tu {f fC fF fS fWd C cR : Addr} {fd fdC fdF fdS fdWd fdI fdM fdT : FuncData} {k : Nat} {fI fM fT : Addr} (F : Fun K "turned" "turned" s_turned f fd) (T : WCls K mg C)
    (GC : FnOk P w K mg base (L2.CX P w) (k + 1) fC fdC ["row"] (spCsX cR)) (kC' : PySem.W.keepIn K (.ref fC) = true) (bC : Binds K fdC ["row"] []) (gC : mg "check_single" = some (.ref fC))
    (GF : FnOk P w K mg base CX0 (k + 1) fF fdF ["row"] spFc) (kF : PySem.W.keepIn K (.ref fF) = true) (bF : Binds K fdF ["row"] []) (gF : mg "first_carry" = some (.ref fF))
    (GS : FnOk P w K mg base CX0 (k + 4) fS fdS ["row", "carry"] spSt) (kS : PySem.W.keepIn K (.ref fS) = true) (bS : Binds K fdS ["row", "carry"] []) (gS : mg "steps" = some (.ref fS))
    (GW : FnOk P w K mg base CX0 (k + 1) fWd fdWd ["many", "columns"] spWf) (kW : PySem.W.keepIn K (.ref fWd) = true) (bW : Binds K fdWd ["many", "columns"] []) (gW : mg "words_of" = some (.ref fWd))
    (MK : Mk K C fI) (GI : FnOk P w K mg base CX0 (k + 1) fI fdI ["self", "first"] (spWi P w C)) (bI : Binds K fdI ["self", "first"] [])
    (MM : Meth K C "meet" fM) (GM : FnOk P w K mg base CX0 (k + 1) fM fdM ["self", "thing", "ahead", "bits"] (spWm P w C)) (bM : Binds K fdM ["self", "thing", "ahead", "bits"] [])
    (MT : Meth K C "bits_to" fT) (GT : FnOk P w K mg base CX0 (k + 1) fT fdT ["self", "number"] (spBt P w C)) (bT : Binds K fdT ["self", "number"] [])
    (mn : mg "len" = none) : FnOk P w K mg base (L2.CX P w) (k + 6) f fd ["row"] (spTu cR) := by
  refine F.okX sc_turned (fun vs H Q E h => ?_) (fun cdv A outer s H vs Q E hr h => ?_)
  · obtain ⟨R, m, o, ds, rfl, _⟩ := h
    rfl
  · obtain ⟨R, m, o, ds, rfl, hrow, ok, q, qE⟩ := h
    have r1 := hr.mono (show k + 1 ≤ k + 5 by omega)
    have r2 := hr.mono (show k + 1 + 1 ≤ k + 5 by omega)
    have r4 := hr.mono (show k + 4 ≤ k + 5 by omega)
    refine ⟨_, pss_cons (ps_expr (pe_callS GC r1 (by rfl) gC kC' bC (fun σ => passAt (takes_of rfl rfl rfl rfl) σ) (pa_cons (pv 0) pa_nil)))
      (pss_cons (ps_set (i := 1) sc_turned.nd rfl (.inl rfl) (pe_make MK GI r2 (by rfl) T.mgC bI .nil pass0 (pa_cons (pe_call GF r1 (by rfl) gF kF bF .nil pass0 (pa_cons (pv 0) pa_nil)) pa_nil)))
      (pss_cons (ps_set (i := 2) sc_turned.nd rfl (.inl rfl) pe_int)
      (pss_cons (ps_while (passes_of rfl) (pt_cmpR op_lt (pv 2) (pe_callB call_len_seq (by rfl) mn PySem.boot_len (pa_cons (pe_fld (pv 1) rfl) pa_nil)) (nomark _))
        (pss_cons (ps_asg (pe_call GS r4 (by rfl) gS kS bS .nil pass0 (pa_cons (pv 0) (pa_cons (pe_ix ix_list (pe_fld (pv 1) rfl) (pv 2) (fun _ _ => rfl)) pa_nil))) (pg_lst rfl (pgs_cons (pg_tup rfl (pgs_cons (pg_name (i := 3) sc_turned.nd rfl (.inl rfl)) (pgs_cons (pg_name (i := 4) sc_turned.nd rfl (.inl rfl)) pgs_nil))) (pgs_cons (pg_tup rfl (pgs_cons (pg_name (i := 5) sc_turned.nd rfl (.inl rfl)) (pgs_cons (pg_name (i := 6) sc_turned.nd rfl (.inl rfl)) pgs_nil))) pgs_nil))))
        (pss_cons (ps_if (pt_cmpR op_eq (pv 3) (pv 5) (nomark _))
          (pss_cons (ps_set (i := 7) sc_turned.nd rfl (.inl rfl) (pe_meth (pv 1) T.cl MT GT r1 bT .nil pass0 (pa_cons (pv 2) pa_nil)))
          (pss_cons (ps_set (i := 8) sc_turned.nd rfl (.inl rfl) (pe_ix ix_list (pe_call GW r1 (by rfl) gW kW bW .nil pass0 (pa_cons pe_int (pa_cons (pv 7) pa_nil))) pe_int (fun _ _ => rfl)))
          (pss_one (ps_ret (pe_tup (pa_cons pe_str (pa_cons (pe_op op_add (pe_callB call_len_seq (by rfl) mn PySem.boot_len (pa_cons (pv 7) pa_nil)) pe_int) (pa_cons (pv 8) (pa_cons (pe_op op_add (pv 8) (pe_op op_shlW pe_int (pe_callB call_len_seq (by rfl) mn PySem.boot_len (pa_cons (pv 7) pa_nil)))) pa_nil))))))))) pss_nil)
        (pss_cons (ps_expr (pe_meth (pv 1) T.cl MM GM r1 bM .nil pass0 (pa_cons (pv 4) (pa_cons (pv 2) (pa_cons (pe_tup (pa_cons pe_int pa_nil)) pa_nil)))))
        (pss_cons (ps_expr (pe_meth (pv 1) T.cl MM GM r1 bM .nil pass0 (pa_cons (pv 6) (pa_cons (pv 2) (pa_cons (pe_tup (pa_cons pe_int pa_nil)) pa_nil)))))
        (pss_one (ps_aug (i := 2) sc_turned.nd rfl (.inl rfl) pe_int ip_add)))))))
      (pss_one (ps_ret (pe_tup (pa_cons pe_str (pa_cons (pe_fld (pv 1) rfl) pa_nil)))))))), ?_⟩
    refine ⟨.ref R, rfl, R, m, o, ds, rfl, hrow, ok, fun em => ?_, fun ne => qE (fun z => ne (by rw [z]; rfl)) H (Same.refl H)⟩
    obtain rfl : m = 1 := Int.ofNat.inj em
    obtain ⟨qA, qB⟩ := q rfl
    have l8 := ok.len
    obtain ⟨Dd, rs, eR, eDd, hd⟩ := id hrow
    refine ⟨.ref R, rfl, R, (1 : Nat), o, ds, rfl, hrow, by omega, fun H1 F1 s1 nF1 eF1 => ?_⟩
    intro Wk dx nWk ndx nex
    have kW' : ∀ c u, H1 c = some u → upd (upd H1 dx (.own Wk)) Wk (.ins C dx []) c = some u := fun c u e => by
      rw [upd_ne (ne_of_none e nWk), upd_ne (ne_of_none e ndx)]
      exact e
    refine ⟨Wk, dx, F1, kC (fCc ds), rfl, upd_same, keyC (kW' _ _ eF1), fun H3 M N W hw nM nN nW kp => ⟨rfl, ?_⟩⟩
    have s3 : Same H1 H3 := fun c u e => kp c u (ne_of_none e nWk) (kW' c u e)
    have back : ∀ a : Addr, upd (upd H1 dx (.own Wk)) Wk (.ins C dx []) a = none → H1 a = none := fun a h => by
      cases e : H1 a with
      | none => rfl
      | some u => rw [kW' a u e] at h; cases h
    have hM1 := back _ nM
    have hN1 := back _ nN
    have hW1 := back _ nW
    have hM0 := s1.free hM1
    refine ⟨fun n σ H4 => ∃ y3 y4 y5 y6 y7 y8 cs ts wy cu, σ = [some (.ref R), some (.ref Wk), some (.int ((cu : Nat) : Int)), y3, y4, y5, y6, y7, y8] ∧ WalkAt P w C H4 Wk M N W ts wy ∧ ts.map (·.1) = cs.map kC ∧ BfsG 1 (nc ds) (gdC ds o) (fCc ds) cs wy cu ∧ (∀ j : Nat, cu < cs.length → j < cs.length → dep wy j ≤ dep wy cu + 1) ∧ (∀ c ∈ cs, CcOk ds c) ∧ cu ≤ cs.length ∧ Same H1 H4 ∧ n = 257 - cu,
      ⟨_, none, none, none, none, none, none, [fCc ds], [(kC (fCc ds), F1)], [(0, [])], 0, rfl, hw, rfl, bfs_firstG 1 (nc ds) (gdC ds o) (fCc ds), (fun j _ hj => ?_), (fun x hx => by rw [List.mem_singleton.mp hx]; exact cc_first ds), Nat.zero_le _, s3, rfl⟩, fun n σ H4 hp => ?_⟩
    · have : j < 1 := hj
      obtain rfl : j = 0 := by omega
      exact Nat.le_add_right _ _
    obtain ⟨y3, y4, y5, y6, y7, y8, cs, ts, wy, cu, rfl, hw4, ek, hB, hnear, gd, hcu, s4, rfl⟩ := hp
    obtain ⟨dxw, ob4⟩ := hw4.ob
    have psl := keys_lenC ek
    have fw := few_cc (keys_ndC hw4.nd ek) gd l8
    refine ⟨.int (cu : Int), rfl, .ref Wk, rfl, Wk, C, dxw, _, _, rfl, ob4, T.cl, T.nM, wF_met _ _ _, M, _, rfl, .inl (.inl (.inl hw4.met)), _, _, rfl, rfl, _, rfl, ite2 (fun e => ?_) (fun e => ?_)⟩
    · have lt : cu < cs.length := by
        have := of_decide_eq_true e
        rw [List.length_map] at this
        omega
      refine ⟨fun σ' H' => ∃ m', m' < 257 - cu ∧ (∃ y3 y4 y5 y6 y7 y8 cs ts wy cu, σ' = [some (.ref R), some (.ref Wk), some (.int ((cu : Nat) : Int)), y3, y4, y5, y6, y7, y8] ∧ WalkAt P w C H' Wk M N W ts wy ∧ ts.map (·.1) = cs.map kC ∧ BfsG 1 (nc ds) (gdC ds o) (fCc ds) cs wy cu ∧ (∀ j : Nat, cu < cs.length → j < cs.length → dep wy j ≤ dep wy cu + 1) ∧ (∀ c ∈ cs, CcOk ds c) ∧ cu ≤ cs.length ∧ Same H1 H' ∧ m' = 257 - cu), fun σ' H' z => z, ?_⟩
      have hti : cu < ts.length := by omega
      obtain ⟨c0, hc0, ht1⟩ := keys_atC ek (List.getElem?_eq_getElem hti)
      have hkey := hw4.keys _ (List.getElem_mem hti)
      rw [ht1] at hkey
      have ecb := keyC_tup' hkey
      have pq := gd c0 (List.mem_of_getElem? hc0)
      refine ⟨.ref R, rfl, .ref Wk, rfl, Wk, C, dxw, _, _, rfl, ob4, T.cl, T.nM, wF_met _ _ _, .int _, rfl, M, _, _, .ref (ts[cu]).2, rfl, rfl, .inl (.inl hw4.met), atI_nat (by rw [List.getElem?_map, List.getElem?_eq_getElem hti]; rfl), ?_⟩
      generalize (ts[cu]).2 = cb at ecb
      have rowT : RowAt H4 R (1 : Nat) ds o := (Same.tups (s1.trans s4)).row hrow
      refine ⟨R, cb, 1, o, ds, c0, rfl, rowT, ok, ecb, pq.l, fun H5 p1 ps1 s5 np1 ep1 st1 => ?_⟩
      have est : stp 1 ds o c0 = [(ob ds o c0 [0], nc ds c0 [0]), (ob ds o c0 [1], nc ds c0 [1])] := rfl
      rw [est] at st1
      match ps1, st1 with
      | [a0, a1], .cons h0 (.cons h1 .nil) =>
      obtain ⟨ac0, e00, e01⟩ := h0
      obtain ⟨ac1, e10, e11⟩ := h1
      refine ⟨p1, [.ref a0, .ref a1], rfl, .inl (.inl ep1), rfl, .ref a0, [.ref a1], rfl, a0, [.int (ob ds o c0 [0]), .ref ac0], rfl, .inl (.inl e00), rfl, .int (ob ds o c0 [0]), [.ref ac0], rfl, .ref ac0, [], rfl, rfl, .ref a1, [], rfl, a1, [.int (ob ds o c0 [1]), .ref ac1], rfl, .inl (.inl e10), rfl, .int (ob ds o c0 [1]), [.ref ac1], rfl, .ref ac1, [], rfl, rfl, rfl, ?_⟩
      have hw5 := hw4.same s5
      have s15 := s4.trans s5
      have b0m : ([0] : List Int) ∈ allB 1 := by decide
      have b1m : ([1] : List Int) ∈ allB 1 := by decide
      have hB0 : BfsPG 1 (nc ds) (gdC ds o) (fCc ds) cs wy cu 0 c0 := ⟨hB, hc0, fun j hj => hnear j lt hj, (fun _ z => by rw [List.take_zero] at z; cases z)⟩
      obtain ⟨dx5, ob5⟩ := hw5.ob
      have wl := hB.len
      refine ⟨.int (ob ds o c0 [0]), rfl, .int (ob ds o c0 [1]), rfl, ⟨rfl, _, rfl, ite2 (fun heq => ?_) (fun hne => ?_)⟩⟩
      · have heq' := intEq heq
        obtain ⟨pp1, _⟩ := bfs_pathG hB cu cu c0 (Nat.le_refl _) hc0
        refine ⟨.ref Wk, rfl, Wk, dx5, _, rfl, ob5, wF_no _ _ _ (by decide +kernel) (by decide +kernel) (by decide +kernel), .int (cu : Int), rfl, Wk, M, N, W, ts, wy, cu, rfl, hw5, by omega, by omega, hB.ways, fun Hx L bl sx nL eL hbl => ?_⟩
        have plE : (path wy cu).length ≤ cu := pth_leT wy cu cu
        have bll := awLen hbl
        have hall : ∀ c ∈ path wy cu, c.length = 1 ∧ ∀ x ∈ c, Bit x := fun c hc => allB_ok 1 c (pp1 c hc)
        refine ⟨.ref L, rfl, 1, L, bl, path wy cu, rfl, by decide, eL, hbl, by omega, hall, fun Hy Lw sy nLw eLw => ?_⟩
        have ew : (wofL 1 (path wy cu)).map V.int = [.int (colW (path wy cu) 0)] := rfl
        rw [ew] at eLw
        refine ⟨Lw, _, 0, .int (colW (path wy cu) 0), rfl, rfl, .inl (.inl eLw), rfl, ?_⟩
        have eL' := sy _ _ eL
        have elen : ((bl.map V.ref).length : Int) = ((path wy cu).length : Nat) := by rw [List.length_map, bll]
        refine ⟨.ref L, rfl, L, _, rfl, .inl (.inl (.inl eL')), _, 1, rfl, rfl, .int _, rfl, .int _, rfl, .ref L, rfl, L, _, rfl, .inl (.inl (.inl eL')), 1, _, rfl, rfl, ?_, _, _, rfl, rfl, (by show 4 ≤ sizeLine; decide), fun Tt hTt => ?_⟩
        · rw [elen]
          exact shl1W (by omega)
        have sT := same_new (o := .tup [.str "meet", .int (((bl.map V.ref).length : Int) + 1), .int (colW (path wy cu) 0), .int (colW (path wy cu) 0 + 1 * 2 ^ ((bl.map V.ref).length : Int).toNat)]) hTt
        have s0y : Same H Hy := s1.trans (s15.trans (sx.trans sy))
        refine qB _ Tt cs wy cu c0 (s0y.trans sT) (s0y.free hTt) ?_ hB hc0 heq' (by omega)
        rw [upd_same, elen, Int.toNat_natCast, Int.one_mul]
      · have hgd : gdC ds o c0 [0] := intNe hne
        refine ⟨.ref Wk, rfl, Wk, dx5, _, rfl, ob5, wF_meet _ _ _, .ref ac0, rfl, .int (cu : Int), rfl, (by show 1 ≤ sizeLine; decide), fun U hU => ?_⟩
        have sU := same_new (o := .tup [.int 0]) hU
        refine ⟨Wk, M, N, W, ac0, U, ts, wy, kC (nc ds c0 [0]), (cu : Int), [0], rfl, hw5.same sU, keyC (sU _ _ e01), upd_same, by omega, fun H6 ts6 wy6 i6 hw6 hi6 case6 kp6 => ?_⟩
        obtain ⟨b6, hb6⟩ := hi6
        obtain ⟨cs6, ek6, hB6, gd6⟩ : ∃ cs6, ts6.map (·.1) = cs6.map kC ∧ BfsPG 1 (nc ds) (gdC ds o) (fCc ds) cs6 wy6 cu 1 c0 ∧ (∀ c ∈ cs6, CcOk ds c) := by
          rcases case6 with ⟨rfl, rfl⟩ | ⟨rfl, rfl, rfl, _⟩
          · obtain ⟨c, hc, ec⟩ := keys_atC ek hb6
            rw [← kC_inj ec] at hc
            exact ⟨cs, ek, bfsp_oldG hB0 rfl hgd hc, gd⟩
          · refine ⟨cs ++ [nc ds c0 [0]], by rw [List.map_append, List.map_append, ek]; rfl, bfsp_newG hB0 rfl hgd, fun c hc => ?_⟩
            rcases List.mem_append.mp hc with hc | hc
            · exact gd c hc
            · rw [List.mem_singleton.mp hc]
              exact nc_ok pq b0m
        have st6 : ∀ b u, b ≠ M → b ≠ N → b ≠ W → H5 b = some u → H6 b = some u := fun b u n1 n2 n3 e => kp6 b u n1 n2 n3 (sU _ _ e)
        have tup6 : TupsStay H5 H6 := fun b xs e => st6 b _ (ne_of e hw5.met (fun y => nomatch y)) (ne_of e hw5.num.ob (fun y => nomatch y)) (by obtain ⟨ws, e2, _⟩ := hw5.ways; exact ne_of e e2 (fun y => nomatch y)) e
        obtain ⟨dx6, ob6⟩ := hw6.ob
        have l6 := keys_lenC ek6
        have few6 := few_cc (keys_ndC hw6.nd ek6) gd6 l8
        refine ⟨.ref Wk, rfl, Wk, dx6, _, rfl, ob6, wF_meet _ _ _, .ref ac1, rfl, .int (cu : Int), rfl, (by show 1 ≤ sizeLine; decide), fun U2 hU2 => ?_⟩
        have sU2 := same_new (o := .tup [.int 1]) hU2
        refine ⟨Wk, M, N, W, ac1, U2, ts6, wy6, kC (nc ds c0 [1]), (cu : Int), [1], rfl, hw6.same sU2, keyC (sU2 _ _ (tup6 _ _ e11)), upd_same, by omega, fun H7 ts7 wy7 i7 hw7 hi7 case7 kp7 => ?_⟩
        obtain ⟨b7, hb7⟩ := hi7
        have hgd1 : gdC ds o c0 [1] := hgd
        obtain ⟨cs7, ek7, hB7, gd7⟩ : ∃ cs7, ts7.map (·.1) = cs7.map kC ∧ BfsPG 1 (nc ds) (gdC ds o) (fCc ds) cs7 wy7 cu 2 c0 ∧ (∀ c ∈ cs7, CcOk ds c) := by
          rcases case7 with ⟨rfl, rfl⟩ | ⟨rfl, rfl, rfl, _⟩
          · obtain ⟨c, hc, ec⟩ := keys_atC ek6 hb7
            rw [← kC_inj ec] at hc
            exact ⟨cs6, ek6, bfsp_oldG hB6 rfl hgd1 hc, gd6⟩
          · refine ⟨cs6 ++ [nc ds c0 [1]], by rw [List.map_append, List.map_append, ek6]; rfl, bfsp_newG hB6 rfl hgd1, fun c hc => ?_⟩
            rcases List.mem_append.mp hc with hc | hc
            · exact gd6 c hc
            · rw [List.mem_singleton.mp hc]
              exact nc_ok pq b1m
        have hcl7 := (List.getElem?_eq_some_iff.mp hB7.here).1
        obtain ⟨hB', near'⟩ := bfsp_doneG (m := 1) hB7
        have few7 := few_cc (keys_ndC hw7.nd ek7) gd7 l8
        exact ⟨.int (cu : Int), rfl, _, _, rfl, rfl, 257 - (cu + 1), by omega, _, _, _, _, _, _, cs7, ts7, wy7, cu + 1, rfl, hw7, ek7, hB', fun j h1 h2 => near' j h1 h2, gd7, by omega, fun b u e => kp7 b u (ne_of_none e hM1) (ne_of_none e hN1) (ne_of_none e hW1) (sU2 _ _ (st6 b u (ne_of_none e hM1) (ne_of_none e hN1) (ne_of_none e hW1) (s15 _ _ e))), rfl⟩
    · have nlt : ¬ cu < cs.length := fun z => e (by
        apply decide_eq_true
        rw [List.length_map]
        omega)
      obtain rfl : cu = cs.length := by omega
      refine ⟨.ref Wk, rfl, Wk, C, dxw, _, _, rfl, ob4, T.cl, T.nM, wF_met _ _ _, (by show 2 ≤ sizeLine; decide), fun Tt hTt => ?_⟩
      have sT := same_new (o := .tup [.str "turned", .ref M]) hTt
      have s04 := s1.trans s4
      refine qA _ Tt M (ts.map (·.2)) cs wy (s04.trans sT) (s04.free hTt) hM0 upd_same ?_ (tat_stay (Same.tups sT) (walk_tc hw4 ek)) hB (keys_ndC hw4.nd ek) gd
      have := sT _ _ hw4.met
      rw [this, List.map_map]
      rfl
def tNevS : TS := fun _ _ _ => False
theorem ps_never {X : Cx} {st : Stmt} : PS X st tNevS := ⟨fun _ _ _ _ _ _ h => h.elim⟩
def spCs : Sp := fun vs H Q _ => ∃ (R : Addr) (o : Int) (ds : List Deed), vs = [.ref R] ∧ RowAt H R 1 ds o ∧ Q .non H
theorem ok_cs {f : Addr} {fd : FuncData} {k : Nat} (F : Fun K "check_single" "check_single" s_check_single f fd) : FnOk P w K mg base CX0 (k + 1) f fd ["row"] spCs := by
  refine F.ok sc_check_single (fun vs H Q E h => ?_) (fun cdv A outer s H vs Q E hr h => ?_)
  · obtain ⟨R, o, ds, rfl, _⟩ := h
    rfl
  · obtain ⟨R, o, ds, rfl, hrow, q⟩ := h
    obtain ⟨D, rs, eR, eD, hd⟩ := id hrow
    refine ⟨_, pss_one (ps_if (pt_cmpR op_ne (pe_ix ix_tup (pv 0) pe_int (fun _ _ => rfl)) pe_int (nomark _)) (pss_one ps_never) pss_nil), ?_⟩
    exact ⟨.ref R, rfl, R, _, 0, .int 1, rfl, rfl, SqT.of eR, rfl, rfl, _, rfl, q⟩
/-- what is come to with the wanted bit, and by which words -/
def cnd (t : Nat) (wb : Int) (ds : List Deed) (o : Int) (e : List Int × Int) (top : Nat) : List (List Int × Int) :=
  match (stp 1 ds o e.1)[top]? with
  | some s => if s.1 = wb then [(s.2, e.2 + (top : Int) * 2 ^ t)] else []
  | none => []
def cnds (t : Nat) (wb : Int) (ds : List Deed) (o : Int) (es : List (List Int × Int)) : List (List Int × Int) := es.flatMap fun e => (List.range 2).flatMap (cnd t wb ds o e)
structure MinRep (l ts : List (List Int × Int)) : Prop where
  nd : (ts.map (·.1)).Nodup
  sound : ∀ e ∈ ts, e ∈ l
  all : ∀ e ∈ l, ∃ u, (e.1, u) ∈ ts ∧ u ≤ e.2
theorem minrep_put {l ts : List (List Int × Int)} {a : List Int} {x : Int} (h : MinRep l ts) : MinRep (l ++ [(a, x)]) (putA ts a (if (getA ts a).getD x < x then (getA ts a).getD x else x)) := by
  have vx : (if (getA ts a).getD x < x then (getA ts a).getD x else x) ≤ x := by split <;> omega
  refine ⟨putA_nodup h.nd, fun e he => ?_, fun e he => ?_⟩
  · rcases mem_putA.mp he with rfl | ⟨h1, _⟩
    · cases eg : getA ts a with
      | none =>
        rw [Option.getD_none, if_neg (by omega)]
        exact List.mem_append_right _ List.mem_cons_self
      | some g =>
        rw [Option.getD_some]
        split
        · exact List.mem_append_left _ (h.sound _ (getA_some eg))
        · exact List.mem_append_right _ List.mem_cons_self
    · exact List.mem_append_left _ (h.sound e h1)
  · rcases List.mem_append.mp he with he | he
    · obtain ⟨u, hu, hle⟩ := h.all e he
      by_cases ha : e.1 = a
      · refine ⟨_, mem_putA.mpr (.inl (congrArg (fun z => (z, if (getA ts a).getD x < x then (getA ts a).getD x else x)) ha)), ?_⟩
        rw [ha] at hu
        rw [getA_of h.nd hu, Option.getD_some]
        split <;> omega
      · exact ⟨u, mem_putA.mpr (.inr ⟨hu, ha⟩), hle⟩
    · rw [List.mem_singleton.mp he]
      exact ⟨_, mem_putA.mpr (.inl rfl), vx⟩
theorem cnd_bits {t : Nat} {wb : Int} {ds : List Deed} {o : Int} {e : List Int × Int} {top : Nat} {x : List Int × Int} (h : x ∈ cnd t wb ds o e top) (hl : e.1.length = ds.length) (hb : ∀ y ∈ e.1, Bit y) : x.1.length = ds.length ∧ ∀ y ∈ x.1, Bit y := by
  unfold cnd at h
  cases es : (stp 1 ds o e.1)[top]? with
  | none => rw [es] at h; cases h
  | some s =>
    rw [es] at h
    dsimp only at h
    split at h
    · rw [List.mem_singleton.mp h]
      obtain ⟨bs, h1, rfl⟩ := List.mem_map.mp (List.mem_of_getElem? es)
      exact ⟨nxt_len hl.symm, nxt_bits (bts_bits (allB_ok 1 bs h1).2 hb) hb⟩
    · cases h
theorem Kept.mono {H H' : Hp} {m : Nat} {ds : List Deed} {o : Int} {es : List (List Int × Addr)} (h : Kept H m ds o es) (tl : ∀ e ∈ es, ∀ xs, H e.2 = some (.lst xs) → H' e.2 = some (.lst xs)) (tt : TupsStay H H') : Kept H' m ds o es :=
  ⟨h.nd, h.bits, fun e he => (h.each e he).elim fun ps z => ⟨ps, tl e he _ z.1, stat_stay tt z.2⟩⟩
def spGu : Sp := fun vs H Q _ => ∃ (R Kd Ls : Addr) (t : Nat) (wb o : Int) (ds : List Deed) (ks : List (List Int × Addr)) (es : List (List Int × Int)), vs = [.ref R, .ref Kd, .ref Ls, .int (t : Int), .int wb] ∧ t ≤ 1000 ∧ RowAt H R (1 : Nat) ds o ∧ RowOk (1 : Nat) ds o ∧ H Kd = some (.dT (emb V.ref ks)) ∧ Kept H 1 ds o ks ∧
  H Ls = some (.dT (emb V.int es)) ∧ Ls ≠ Kd ∧ (es.map (·.1)).Nodup ∧ (∀ e ∈ es, e.1.length = ds.length ∧ ∀ x ∈ e.1, Bit x) ∧
  ∀ H' p ts ks', But Kd H H' → H' Kd = some (.dT (emb V.ref ks')) → Kept H' 1 ds o ks' → H p = none → H' p = some (.dT (emb V.int ts)) → MinRep (cnds t wb ds o es) ts → Q (.ref p) H'
theorem ok_gu {f fS : Addr} {fd fdS : FuncData} {k : Nat} (F : Fun K "gone_up" "gone_up" s_gone_up f fd)
    (GK : FnOk P w K mg base CX0 (k + 5) fS fdS ["kept", "row", "carry"] spKs) (kK : PySem.W.keepIn K (.ref fS) = true) (bK : Binds K fdS ["kept", "row", "carry"] []) (gK : mg "kept_steps" = some (.ref fS)) (me : mg "enumerate" = none) (mm : mg "min" = none) :
    FnOk P w K mg base CX0 (k + 6) f fd ["row", "kept", "least", "place", "wanted"] spGu := by
  refine F.ok sc_gone_up (fun vs H Q E h => ?_) (fun cdv A outer s H vs Q E hr h => ?_)
  · obtain ⟨R, Kd, Ls, t, wb, o, ds, ks, es, rfl, _⟩ := h
    rfl
  · obtain ⟨R, Kd, Ls, t, wb, o, ds, ks, es, rfl, ht, hrow, hok, eK, kp, eLs, nLK, nd, hb, q⟩ := h
    have hu := hu_of hr
    refine ⟨_, pss_cons (ps_set (i := 5) sc_gone_up.nd rfl (.inl rfl) pe_dnewT)
      (pss_cons (ps_lock (ps_for PassesOwn.never rfl (pi_itT (pv 2)) (pg_tup rfl (pgs_cons (pg_name (i := 6) sc_gone_up.nd rfl (.inl rfl)) (pgs_cons (pg_name (i := 7) sc_gone_up.nd rfl (.inl rfl)) pgs_nil)))
        (pss_one (ps_for PassesOwn.never rfl (pi_enum (by rfl) me (pa_cons (pe_call GK hr (by rfl) gK kK bK .nil pass0 (pa_cons (pv 1) (pa_cons (pv 0) (pa_cons (pv 6) pa_nil)))) pa_nil)) (pg_tup rfl (pgs_cons (pg_name (i := 8) sc_gone_up.nd rfl (.inl rfl)) (pgs_cons (pg_tup rfl (pgs_cons (pg_name (i := 9) sc_gone_up.nd rfl (.inl rfl)) (pgs_cons (pg_name (i := 10) sc_gone_up.nd rfl (.inl rfl)) pgs_nil))) pgs_nil)))
          (pss_one (ps_if (pt_cmpR op_eq (pv 9) (pv 4) (nomark _))
            (pss_cons (ps_set (i := 11) sc_gone_up.nd rfl (.inl rfl) (pe_op op_add (pv 7) (pe_op op_shl (pv 8) (pv 3))))
            (pss_one (ps_dput hu (pv 5) (pv 10) (pe_callB (call_min2 rfl) (by rfl) mm (by decide +kernel) (pa_cons (pv 11) (pa_cons (pe_dget2 hu (pv 5) (pv 10) (pv 11) ⟨rfl, rfl, rfl, rfl⟩) pa_nil))) rfl))) pss_nil))))))
      (pss_one (ps_ret (pv 5)))), ?_⟩
    intro T hT
    have l8 := hok.len
    have sT := same_new (o := .dT []) hT
    have nTL : T ≠ Ls := fun z => by rw [z, eLs] at hT; cases hT
    have nTK : T ≠ Kd := fun z => by rw [z, eK] at hT; cases hT
    refine ⟨Ls, .dT (emb V.int es), sT _ _ eLs, True.intro, fun od => ?_⟩
    have eHL : upd (upd H T (.dT [])) Ls (.frz od (.dT (emb V.int es))) Ls = some (.frz od (.dT (emb V.int es))) := upd_same
    have eKL : upd (upd H T (.dT [])) Ls (.frz od (.dT (emb V.int es))) Kd = some (.dT (emb V.ref ks)) := by
      rw [upd_ne nLK.symm, upd_ne nTK.symm]
      exact eK
    have eTL : upd (upd H T (.dT [])) Ls (.frz od (.dT (emb V.int es))) T = some (.dT []) := by
      rw [upd_ne nTL]
      exact upd_same
    have toL : ∀ b u, b ≠ Ls → H b = some u → upd (upd H T (.dT [])) Ls (.frz od (.dT (emb V.int es))) b = some u := fun b u nb e => by
      rw [upd_ne nb]
      exact sT _ _ e
    have tL : TupsStay H (upd (upd H T (.dT [])) Ls (.frz od (.dT (emb V.int es)))) := fun b xs e => toL b _ (ne_of e eLs (fun z => nomatch z)) e
    have kpL : Kept (upd (upd H T (.dT [])) Ls (.frz od (.dT (emb V.int es)))) 1 ds o ks := kp.mono (fun e _ xs z => toL _ _ (ne_of z eLs (fun y => nomatch y)) z) tL
    generalize upd (upd H T (.dT [])) Ls (.frz od (.dT (emb V.int es))) = HL at eHL eKL eTL toL tL kpL
    refine ⟨.ref Ls, rfl, Ls, od, _, rfl, eHL, for_it (walk_T (d := Ls) (o := od) (kvs := emb V.int es)) (fun i σ H3 => ∃ y6 y7 y8 y9 y10 y11 ks' ts, σ = [some (.ref R), some (.ref Kd), some (.ref Ls), some (.int (t : Int)), some (.int wb), some (.ref T), y6, y7, y8, y9, y10, y11] ∧ H3 Kd = some (.dT (emb V.ref ks')) ∧ Kept H3 1 ds o ks' ∧ H3 T = some (.dT (emb V.int ts)) ∧ MinRep (cnds t wb ds o (es.take i)) ts ∧ ∀ b u, b ≠ Kd → b ≠ T → HL b = some u → H3 b = some u)
      ⟨none, none, none, none, none, none, ks, [], rfl, eKL, kpL, eTL, ⟨List.nodup_nil, (fun _ z => nomatch z), (fun _ z => nomatch z)⟩, fun _ _ _ _ e => e⟩ (fun i σ H3 _ hp => ?_) (fun i x σ H3 H4 hi hp hy => ?_) (fun σ H3 hp => ?_)⟩
    · obtain ⟨_, _, _, _, _, _, _, _, _, _, _, _, _, st⟩ := hp
      exact st _ _ nLK nTL.symm eHL
    · obtain ⟨y6, y7, y8, y9, y10, y11, ks', ts, rfl, eK3, kp3, eT3, mr, st⟩ := hp
      obtain ⟨U, C, k0, v, hkv, hC, rfl, hU, rfl⟩ := hy
      obtain ⟨e, he, hk0⟩ : ∃ e, es[i]? = some e ∧ (k0, v) = (kI e.1, V.int e.2) := by
        unfold emb at hkv
        rw [List.getElem?_map] at hkv
        cases h : es[i]? with
        | none => rw [h] at hkv; cases hkv
        | some e => rw [h] at hkv; exact ⟨e, rfl, (Option.some.inj hkv).symm⟩
      obtain ⟨rfl, rfl⟩ := Prod.mk.inj hk0
      rw [kI_V] at hC
      obtain ⟨hl, hbt⟩ := hb e (List.mem_of_getElem? he)
      have sU := same_new (o := .tup [.ref C, .int e.2]) hU
      have nUK : U ≠ Kd := fun z => by rw [z, eK3] at hU; cases hU
      have nUT : U ≠ T := fun z => by rw [z, eT3] at hU; cases hU
      refine ⟨U, [.ref C, .int e.2], rfl, .inl (.inl upd_same), rfl, .ref C, [.int e.2], rfl, .int e.2, [], rfl, rfl, ?_⟩
      have rowS : ∀ {H5 : Hp}, (∀ b u, b ≠ Kd → b ≠ T → HL b = some u → H5 b = some u) → RowAt H5 R (1 : Nat) ds o := fun s5 => by
        refine TupsStay.row (fun b xs z => ?_) hrow
        have z1 := tL b xs z
        exact s5 _ _ (ne_of z1 eKL (fun y => nomatch y)) (ne_of z1 eTL (fun y => nomatch y)) z1
      have st4 : ∀ b u, b ≠ Kd → b ≠ T → HL b = some u → upd H3 U (.tup [.ref C, .int e.2]) b = some u := fun b u n1 n2 z => sU _ _ (st b u n1 n2 z)
      refine ⟨.ref Kd, rfl, .ref R, rfl, .ref C, rfl, Kd, R, C, 1, o, ds, e.1, ks', rfl, sU _ _ eK3, kp3.mono (fun _ _ xs z => sU _ _ z) (Same.tups sU), rowS st4, hok, sU _ _ hC, hl, hbt, fun H5 p ps ks2 b5 eK5 kp5 hsub hnew hin ep hs => ?_⟩
      have eT5 := b5 _ _ nTK (sU _ _ eT3)
      have st5 : ∀ b u, b ≠ Kd → b ≠ T → HL b = some u → H5 b = some u := fun b u n1 n2 z => b5 _ _ n1 (st4 b u n1 n2 z)
      have npT : p ≠ T := ne_of ep eT5 (fun y => nomatch y)
      have npK : p ≠ Kd := ne_of ep eK5 (fun y => nomatch y)
      refine ⟨p, _, rfl, .inl (.inl ep), for_it (walk_enum (K := K) (a := p) (xs := ps.map V.ref)) (fun j σ H6 => ∃ y8 y9 y10 y11 ts, σ = [some (.ref R), some (.ref Kd), some (.ref Ls), some (.int (t : Int)), some (.int wb), some (.ref T), some (.ref C), some (.int e.2), y8, y9, y10, y11] ∧ H6 T = some (.dT (emb V.int ts)) ∧ MinRep (cnds t wb ds o (es.take i) ++ (List.range j).flatMap (cnd t wb ds o e)) ts ∧ ∀ b u, b ≠ T → H5 b = some u → H6 b = some u)
        ⟨y8, y9, y10, y11, ts, rfl, eT5, by rw [List.range_zero, List.flatMap_nil, List.append_nil]; exact mr, fun _ _ _ z => z⟩ (fun j σ H6 _ hp => ?_) (fun j x σ H6 H7 hj hp hy => ?_) (fun σ H6 hp => ?_)⟩
      · obtain ⟨_, _, _, _, _, _, _, _, st6⟩ := hp
        exact .inl (.inl (st6 _ _ npT ep))
      · obtain ⟨y8, y9, y10, y11, ts, rfl, eT6, mr6, st6⟩ := hp
        obtain ⟨W, x1, x2, rfl, hW, rfl, g1, g2⟩ := hy
        obtain rfl : V.int (j : Nat) = x1 := Option.some.inj g1
        have hj2 : j < ps.length := by rwa [List.length_map] at hj
        have hx2 : x2 = .ref ps[j] := by
          have g2' : (ps.map V.ref)[j]? = some x2 := g2
          rw [List.getElem?_map, List.getElem?_eq_getElem hj2] at g2'
          exact (Option.some.inj g2').symm
        subst hx2
        obtain ⟨sb, hs1, c, hs2, hs3⟩ := awGet hs (List.getElem?_eq_getElem hj2)
        have jl : j < 2 := by
          have := (List.getElem?_eq_some_iff.mp hs1).1
          rw [stp_len] at this
          exact this
        have sW := same_new (o := .tup [.int (j : Nat), .ref ps[j]]) hW
        have q1 : H5 ps[j] ≠ none := fun z => by rw [hs2] at z; cases z
        have e2 : upd H6 W (.tup [.int (j : Nat), .ref ps[j]]) ps[j] = some (.tup [.int sb.1, .ref c]) := sW _ _ (st6 _ _ (ne_of hs2 eT5 (fun y => nomatch y)) hs2)
        have e3 : upd H6 W (.tup [.int (j : Nat), .ref ps[j]]) c = some (.tup (sb.2.map V.int)) := sW _ _ (st6 _ _ (ne_of hs3 eT5 (fun y => nomatch y)) hs3)
        refine ⟨W, [.int (j : Nat), .ref ps[j]], rfl, .inl (.inl upd_same), rfl, .int (j : Nat), [.ref ps[j]], rfl, .ref ps[j], [], rfl, ps[j], [.int sb.1, .ref c], rfl, .inl (.inl e2), rfl, .int sb.1, [.ref c], rfl, .ref c, [], rfl, rfl, rfl, ?_⟩
        have rg : (List.range (j + 1)).flatMap (cnd t wb ds o e) = (List.range j).flatMap (cnd t wb ds o e) ++ cnd t wb ds o e j := by
          rw [List.range_succ, List.flatMap_append]
          simp
        refine ⟨.int sb.1, rfl, .int wb, rfl, rfl, _, rfl, ite2 (fun ev => ?_) (fun ev => ?_)⟩
        · have hw := intEq ev
          have esz : e.2 + (j : Int) * 2 ^ ((t : Int).toNat) = e.2 + (j : Int) * 2 ^ t := by rw [Int.toNat_natCast]
          have cj : cnd t wb ds o e j = [(sb.2, e.2 + (j : Int) * 2 ^ ((t : Int).toNat))] := by
            unfold cnd
            rw [hs1, esz]
            exact if_pos hw
          refine ⟨.int e.2, rfl, .int (j : Nat), rfl, .int (t : Int), rfl, _, _, rfl, rfl, ⟨by omega, by omega, by omega⟩, _, _, rfl, rfl, ?_⟩
          have eT7 := sW _ _ eT6
          have g7 := DGet.t (k := kI sb.2) eT7 (by rw [kI_V]; exact e3)
          rw [emb_get] at g7
          refine ⟨.int _, rfl, .ref T, rfl, T, rfl, .inr ⟨_, .inl eT7⟩, .ref c, rfl, .int _, rfl, _, g7, ?_⟩
          have gv : ((getA ts sb.2).map V.int).getD (.int (e.2 + (j : Int) * 2 ^ ((t : Int).toNat))) = .int ((getA ts sb.2).getD (e.2 + (j : Int) * 2 ^ ((t : Int).toNat))) := by cases getA ts sb.2 <;> rfl
          rw [gv]
          have few : (emb V.int ts).length < sizeLine := by
            unfold emb
            rw [List.length_map]
            have := few_keys (n := ds.length) mr6.nd (fun z hz => ?_) l8
            · exact small1000 (by omega)
            · rcases List.mem_append.mp (mr6.sound z hz) with h1 | h1
              · obtain ⟨e', he', h2⟩ := List.mem_flatMap.mp h1
                obtain ⟨j', _, h3⟩ := List.mem_flatMap.mp h2
                obtain ⟨h4, h5⟩ := hb e' (List.mem_of_mem_take he')
                exact cnd_bits h3 h4 h5
              · obtain ⟨j', _, h3⟩ := List.mem_flatMap.mp h1
                exact cnd_bits h3 hl hbt
          refine ⟨_, _, rfl, .ref T, rfl, .ref c, rfl, T, _, rfl, DPut.t (k := kI sb.2) eT7 (by rw [kI_V]; exact e3) few, _, _, _, _, putA ts sb.2 (if (getA ts sb.2).getD (e.2 + (j : Int) * 2 ^ ((t : Int).toNat)) < e.2 + (j : Int) * 2 ^ ((t : Int).toNat) then (getA ts sb.2).getD (e.2 + (j : Int) * 2 ^ ((t : Int).toNat)) else e.2 + (j : Int) * 2 ^ ((t : Int).toNat)), rfl, ?_, ?_, ?_⟩
          · rw [upd_same, emb_put]
          · rw [rg, cj, ← List.append_assoc]
            exact minrep_put mr6
          · intro b u nb z
            rw [upd_ne nb]
            exact sW _ _ (st6 b u nb z)
        · have hw := intNe ev
          have cj : cnd t wb ds o e j = [] := by
            unfold cnd
            rw [hs1]
            exact if_neg hw
          refine ⟨_, _, _, _, ts, rfl, sW _ _ eT6, ?_, fun b u nb z => sW _ _ (st6 b u nb z)⟩
          rw [rg, cj, List.append_nil]
          exact mr6
      · obtain ⟨y8, y9, y10, y11, ts2, rfl, eT6, mr6, st6⟩ := hp
        have pl : (ps.map V.ref).length = 2 := by
          rw [List.length_map, awLen hs, stp_len]
        rw [pl] at mr6
        refine ⟨_, _, _, _, _, _, ks2, ts2, rfl, st6 _ _ nTK.symm eK5, kp5.mono (fun z hz xs y => st6 _ _ (ne_of y eT5 (fun y => nomatch y)) y) (fun b xs y => st6 _ _ (ne_of y eT5 (fun y => nomatch y)) y), eT6, ?_, fun b u n1 n2 z => st6 _ _ n2 (st5 b u n1 n2 z)⟩
        have e1 : cnds t wb ds o (es.take (i + 1)) = cnds t wb ds o (es.take i) ++ (List.range 2).flatMap (cnd t wb ds o e) := by
          unfold cnds
          rw [List.take_add_one, he, List.flatMap_append]
          simp
        rw [e1]
        exact mr6
    · obtain ⟨y6, y7, y8, y9, y10, y11, ks', ts, rfl, eK3, kp3, eT3, mr, st⟩ := hp
      have len : (emb V.int es).length = es.length := List.length_map ..
      rw [len, List.take_length] at mr
      have eLs3 := st _ _ nLK nTL.symm eHL
      have stay : ∀ b u, b ≠ Ls → H3 b = some u → upd H3 Ls (.dT (emb V.int es)) b = some u := fun b u nb z => by
        rw [upd_ne nb]
        exact z
      refine ⟨eLs3, .ref T, rfl, q _ T ts ks' (fun b u nb z => ?_) (stay _ _ nLK.symm eK3) (kp3.mono (fun z _ xs y => stay _ _ (ne_of y eLs3 (fun y => nomatch y)) y) (fun b xs y => stay _ _ (ne_of y eLs3 (fun y => nomatch y)) y)) hT (stay _ _ nTL eT3) mr⟩
      by_cases hbL : b = Ls
      · subst hbL
        rw [eLs] at z
        rw [upd_same, z]
      · refine stay _ _ hbL (st b u nb ?_ (toL b u hbL z))
        exact ne_of_none z hT
theorem bit_one {x : Int} (h : 0 ≤ x) : Builtin.bitAnd x 1 = x % 2 := by
  obtain ⟨a, rfl⟩ := Int.eq_ofNat_of_zero_le h
  rw [bitAnd_pp (Int.natCast_nonneg _) (by decide)]
  simp only [Int.toNat_natCast]
  show ((a &&& 1 : Nat) : Int) = _
  rw [Nat.and_one_is_mod]
  omega
def outb (ds : List Deed) (o x : Int) (i : Nat) : Int := (bts ds (crry ds [x] i) [bitA i x]).getD o.toNat 0
def Mt (ds : List Deed) (o W x : Int) (t : Nat) : Prop := ∀ i, i < t → outb ds o x i = bitA i W
theorem crry_congr {ds : List Deed} {x y : Int} : ∀ {t : Nat}, (∀ i, i < t → bitA i x = bitA i y) → crry ds [x] t = crry ds [y] t
  | 0, _ => rfl
  | t + 1, h => by
    have ih := crry_congr (ds := ds) (t := t) fun i hi => h i (by omega)
    have e := h t (by omega)
    unfold crry
    rw [ih, List.map_cons, List.map_cons, e]
theorem outb_congr {ds : List Deed} {o x y : Int} {t : Nat} (h : ∀ i, i ≤ t → bitA i x = bitA i y) : outb ds o x t = outb ds o y t := by
  unfold outb
  rw [crry_congr fun i hi => h i (by omega), h t (Nat.le_refl _)]
theorem put_bit {v b : Int} {t : Nat} (v0 : 0 ≤ v) (v1 : v < 2 ^ t) (hb : Bit b) : bitA t (v + b * 2 ^ t) = b ∧ ∀ i, i < t → bitA i (v + b * 2 ^ t) = bitA i v := by
  have hp := pw_pos t
  refine ⟨?_, fun i hi => ?_⟩
  · unfold bitA
    rw [Int.add_mul_ediv_right _ _ (by omega), Int.ediv_eq_zero_of_lt v0 v1, Int.zero_add]
    exact bit_val hb
  · have e : (v + b * 2 ^ t) % 2 ^ t = v := by
      rw [Int.add_mul_emod_self_right, Int.emod_eq_of_lt v0 v1]
    rw [← bit_mod hi, e]
theorem split_bit {x : Int} {t : Nat} (x0 : 0 ≤ x) (x1 : x < 2 ^ (t + 1)) : x = x % 2 ^ t + bitA t x * 2 ^ t := by
  have h := low_next x (pw_pos t)
  rw [Int.mul_comm 2, ← Int.pow_succ, Int.emod_eq_of_lt x0 x1] at h
  unfold bitA
  rw [Int.mul_comm, Int.add_comm]
  exact h
structure GBi (ds : List Deed) (o W : Int) (t : Nat) (es : List (List Int × Int)) : Prop where
  nd : (es.map (·.1)).Nodup
  sound : ∀ e ∈ es, 0 ≤ e.2 ∧ e.2 < 2 ^ t ∧ crry ds [e.2] t = e.1 ∧ Mt ds o W e.2 t
  all : ∀ x, 0 ≤ x → x < 2 ^ t → Mt ds o W x t → ∃ u, (crry ds [x] t, u) ∈ es ∧ u ≤ x
theorem gbi_first (ds : List Deed) (o W : Int) : GBi ds o W 0 [(ds.map fcD, 0)] := by
  refine ⟨by simp, fun e he => ?_, fun x x0 x1 _ => ?_⟩
  · rw [List.mem_singleton.mp he]
    exact ⟨Int.le_refl _, (by show (0 : Int) < 2 ^ 0; decide), rfl, fun i hi => absurd hi (Nat.not_lt_zero _)⟩
  · have : x = 0 := by
      rw [Int.pow_zero] at x1
      omega
    subst this
    exact ⟨0, List.mem_cons_self, Int.le_refl _⟩
theorem stp_one (ds : List Deed) (o : Int) (c : List Int) (top : Nat) (s : Int × List Int) : (stp 1 ds o c)[top]? = some s ↔ top < 2 ∧ s = ((bts ds c [(top : Int)]).getD o.toNat 0, nxt ds c (bts ds c [(top : Int)])) := by
  have e : stp 1 ds o c = [((bts ds c [0]).getD o.toNat 0, nxt ds c (bts ds c [0])), ((bts ds c [1]).getD o.toNat 0, nxt ds c (bts ds c [1]))] := rfl
  rw [e]
  match top with
  | 0 => simp [eq_comm]
  | 1 => simp [eq_comm]
  | n + 2 => exact ⟨fun h => by simp at h, fun h => absurd h.1 (by omega)⟩
theorem gbi_next {ds : List Deed} {o W : Int} {t : Nat} {es ts : List (List Int × Int)} (g : GBi ds o W t es) (r : MinRep (cnds t (bitA t W) ds o es) ts) : GBi ds o W (t + 1) ts := by
  refine ⟨r.nd, fun e he => ?_, fun x x0 x1 hm => ?_⟩
  · obtain ⟨e0, he0, h1⟩ := List.mem_flatMap.mp (r.sound e he)
    obtain ⟨top, ht, h2⟩ := List.mem_flatMap.mp h1
    obtain ⟨a0, a1, a2, a3⟩ := g.sound e0 he0
    unfold cnd at h2
    cases es0 : (stp 1 ds o e0.1)[top]? with
    | none => rw [es0] at h2; cases h2
    | some s =>
      rw [es0] at h2
      dsimp only at h2
      obtain ⟨t2, hs⟩ := (stp_one ds o e0.1 top s).mp es0
      split at h2
      · rename_i hw
        rw [List.mem_singleton.mp h2]
        have hb : Bit (top : Int) := by
          unfold Bit
          omega
        obtain ⟨p1, p2⟩ := put_bit (t := t) a0 a1 hb
        have pp := pw_pos t
        have cc : crry ds [e0.2 + (top : Int) * 2 ^ t] t = e0.1 := by rw [crry_congr p2, a2]
        refine ⟨?_, ?_, ?_, fun i hi => ?_⟩
        · show 0 ≤ e0.2 + (top : Int) * 2 ^ t
          rcases hb with z | z <;> rw [z] <;> omega
        · show e0.2 + (top : Int) * 2 ^ t < 2 ^ (t + 1)
          rw [Int.pow_succ]
          rcases hb with z | z <;> rw [z] <;> omega
        · show nxt ds (crry ds [e0.2 + (top : Int) * 2 ^ t] t) (bts ds (crry ds [e0.2 + (top : Int) * 2 ^ t] t) [bitA t (e0.2 + (top : Int) * 2 ^ t)]) = s.2
          rw [cc, p1, hs]
        · show outb ds o (e0.2 + (top : Int) * 2 ^ t) i = bitA i W
          by_cases hit : i < t
          · rw [outb_congr (y := e0.2) fun j hj => p2 j (by omega)]
            exact a3 i hit
          · obtain rfl : i = t := by omega
            unfold outb
            rw [cc, p1, ← hw, hs]
      · cases h2
  · have sp := split_bit x0 x1
    have hb := bitA_bit t x
    have v0 := Int.emod_nonneg x (show (2 : Int) ^ t ≠ 0 by have := pw_pos t; omega)
    have v1 := Int.emod_lt_of_pos x (pw_pos t)
    have lo : ∀ i, i < t → bitA i (x % 2 ^ t) = bitA i x := fun i hi => bit_mod hi
    have mv : Mt ds o W (x % 2 ^ t) t := fun i hi => by
      rw [outb_congr (y := x) fun j hj => lo j (by omega)]
      exact hm i (by omega)
    obtain ⟨u, hu, hle⟩ := g.all _ v0 v1 mv
    rw [crry_congr lo] at hu
    have hin : (crry ds [x] (t + 1), u + bitA t x * 2 ^ t) ∈ cnds t (bitA t W) ds o es := by
      refine List.mem_flatMap.mpr ⟨_, hu, ?_⟩
      obtain ⟨top, hT, hT2⟩ : ∃ top : Nat, (top : Int) = bitA t x ∧ top < 2 := by
        rcases hb with z | z
        · exact ⟨0, by rw [z]; rfl, by decide⟩
        · exact ⟨1, by rw [z]; rfl, by decide⟩
      refine List.mem_flatMap.mpr ⟨top, List.mem_range.mpr hT2, ?_⟩
      unfold cnd
      rw [(stp_one ds o (crry ds [x] t) top _).mpr ⟨hT2, rfl⟩]
      dsimp only
      rw [hT, if_pos (show (bts ds (crry ds [x] t) [bitA t x]).getD o.toNat 0 = bitA t W from hm t (by omega))]
      exact List.mem_cons_self
    obtain ⟨u2, h1, h2⟩ := r.all _ hin
    refine ⟨u2, h1, ?_⟩
    dsimp only at h2
    omega
theorem eq_of_bits {a b : Int} : ∀ {n : Nat}, (∀ i, i < n → bitA i a = bitA i b) → a % 2 ^ n = b % 2 ^ n
  | 0, _ => by rw [Int.pow_zero, Int.emod_one, Int.emod_one]
  | n + 1, h => by
    have ih := eq_of_bits (a := a) (b := b) (n := n) fun i hi => h i (by omega)
    have e := h n (by omega)
    unfold bitA at e
    rw [Int.pow_succ, Int.mul_comm, low_next a (pw_pos n), low_next b (pw_pos n), e, ih]
def wrth (n : Nat) (ds : List Deed) (o x : Int) : Int := (vals (2 ^ n) ds [x]).getD o.toNat 0
theorem getD_map0 {f : Int → Int} (h : f 0 = 0) (l : List Int) (i : Nat) : (l.map f).getD i 0 = f (l.getD i 0) := by
  rw [List.getD_eq_getElem?_getD, List.getD_eq_getElem?_getD, List.getElem?_map]
  cases l[i]? with
  | none => exact h.symm
  | some y => rfl
theorem wrth_range {n : Nat} {ds : List Deed} {o x : Int} (x0 : 0 ≤ x) (x1 : x < 2 ^ n) : 0 ≤ wrth n ds o x ∧ wrth n ds o x < 2 ^ n := by
  have vr := vals_range (pw_pos n) ds [x] fun y hy => by rw [List.mem_singleton.mp hy]; exact ⟨x0, x1⟩
  unfold wrth
  rw [List.getD_eq_getElem?_getD]
  cases e : (vals (2 ^ n) ds [x])[o.toNat]? with
  | none => exact ⟨Int.le_refl _, pw_pos n⟩
  | some y => exact vr y (List.mem_of_getElem? e)
theorem outb_wrth {n : Nat} {ds : List Deed} {o x : Int} (ok : DsOk (1 : Nat) ds) (x0 : 0 ≤ x) (x1 : x < 2 ^ n) {i : Nat} (hi : i < n) : outb ds o x i = bitA i (wrth n ds o x) := by
  have e := crry_bits (m := 1) (n := n) (t := i) (ds := ds) (xs := [x]) ok rfl (Nat.le_refl _) (fun y hy => by rw [List.mem_singleton.mp hy]; exact ⟨x0, x1⟩) hi
  unfold outb wrth
  show (bts ds (crry ds [x] i) ([x].map (bitA i))).getD o.toNat 0 = _
  rw [e, getD_map0 (by unfold bitA; rw [Int.zero_ediv]; rfl)]
theorem mt_iff {n : Nat} {ds : List Deed} {o x W : Int} (ok : DsOk (1 : Nat) ds) (x0 : 0 ≤ x) (x1 : x < 2 ^ n) (w0 : 0 ≤ W) (w1 : W < 2 ^ n) : Mt ds o W x n ↔ wrth n ds o x = W := by
  obtain ⟨r0, r1⟩ := wrth_range (ds := ds) (o := o) x0 x1
  constructor
  · intro h
    have e := eq_of_bits (a := wrth n ds o x) (b := W) (n := n) fun i hi => by
      rw [← outb_wrth ok x0 x1 hi]
      exact h i hi
    rwa [Int.emod_eq_of_lt r0 r1, Int.emod_eq_of_lt w0 w1] at e
  · intro h i hi
    rw [outb_wrth ok x0 x1 hi, h]
/-- the least word whose worth is W, or none -/
def GB (n : Nat) (ds : List Deed) (o W : Int) (r : V) : Prop :=
  (r = .non ∧ ∀ x, 0 ≤ x → x < 2 ^ n → wrth n ds o x ≠ W) ∨ ∃ v, r = .int v ∧ 0 ≤ v ∧ v < 2 ^ n ∧ wrth n ds o v = W ∧ ∀ x, 0 ≤ x → x < 2 ^ n → wrth n ds o x = W → v ≤ x
def spGb : Sp := fun vs H Q _ => ∃ (R : Addr) (n : Nat) (W o : Int) (ds : List Deed), vs = [.ref R, .int (n : Int), .int W] ∧ n ≤ 1000 ∧ 0 ≤ W ∧ W < 2 ^ n ∧ RowAt H R (1 : Nat) ds o ∧ RowOk (1 : Nat) ds o ∧ ∀ H' r, Same H H' → GB n ds o W r → Q r H'
theorem ok_gb {f fC fF fU : Addr} {fd fdC fdF fdU : FuncData} {k : Nat} (F : Fun K "gone_back" "gone_back" s_gone_back f fd)
    (GC : FnOk P w K mg base CX0 (k + 1) fC fdC ["row"] spCs) (kC : PySem.W.keepIn K (.ref fC) = true) (bC : Binds K fdC ["row"] []) (gC : mg "check_single" = some (.ref fC))
    (GF : FnOk P w K mg base CX0 (k + 1) fF fdF ["row"] spFc) (kF : PySem.W.keepIn K (.ref fF) = true) (bF : Binds K fdF ["row"] []) (gF : mg "first_carry" = some (.ref fF))
    (GU : FnOk P w K mg base CX0 (k + 6) fU fdU ["row", "kept", "least", "place", "wanted"] spGu) (kU : PySem.W.keepIn K (.ref fU) = true) (bU : Binds K fdU ["row", "kept", "least", "place", "wanted"] []) (gU : mg "gone_up" = some (.ref fU))
    (mr : mg "range" = none) (mm : mg "min" = none) : FnOk P w K mg base CX0 (k + 7) f fd ["row", "width", "word"] spGb := by
  refine F.ok sc_gone_back (fun vs H Q E h => ?_) (fun cdv A outer s H vs Q E hr h => ?_)
  · obtain ⟨R, n, W, o, ds, rfl, _⟩ := h
    rfl
  · obtain ⟨R, n, W, o, ds, rfl, hn, w0, w1, hrow, hok, q⟩ := h
    have r1 := hr.mono (show k + 1 ≤ k + 6 by omega)
    have hu := hu_of hr
    refine ⟨_, pss_cons (ps_expr (pe_call GC r1 (by rfl) gC kC bC .nil pass0 (pa_cons (pv 0) pa_nil)))
      (pss_cons (ps_if (pt_cmpR op_ne (pe_op op_shr (pv 2) (pv 1)) pe_int (nomark _)) (pss_one (ps_ret pe_non)) pss_nil)
      (pss_cons (ps_set (i := 3) sc_gone_back.nd rfl (.inl rfl) pe_dnewT)
      (pss_cons (ps_set (i := 4) sc_gone_back.nd rfl (.inl rfl) (pe_dispT (Nat.lt_of_succ_lt hu) (pe_call GF r1 (by rfl) gF kF bF .nil pass0 (pa_cons (pv 0) pa_nil)) pe_int))
      (pss_cons (ps_for PassesOwn.never rfl (pi_range1 (by rfl) mr (pa_cons (pv 1) pa_nil)) (pg_name (i := 5) sc_gone_back.nd rfl (.inl rfl))
        (pss_one (ps_set (i := 4) sc_gone_back.nd rfl (.inl rfl) (pe_call GU hr (by rfl) gU kU bU .nil pass0 (pa_cons (pv 0) (pa_cons (pv 3) (pa_cons (pv 4) (pa_cons (pv 5) (pa_cons (pe_op op_and (pe_op op_shr (pv 2) (pv 5)) pe_int) pa_nil))))))))) 
      (pss_cons (ps_if (pt_not (pt_truthR (pv 4) tru_dT (fun _ => rfl))) (pss_one (ps_ret pe_non)) pss_nil)
      (pss_one (ps_ret (pe_callB (call_minV rfl) (by rfl) mm (by decide +kernel) (pa_cons (pe_bm0 PySem.F.plainAttrs_dict PySem.F.slot_dict_values PySem.F.type_dict_values mt_valsT (pv 4)) pa_nil))))))))), ?_⟩
    have l8 := hok.len
    have wz : W / 2 ^ ((n : Int).toNat) = 0 := by
      rw [Int.toNat_natCast]
      exact Int.ediv_eq_zero_of_lt w0 w1
    refine ⟨.ref R, rfl, R, o, ds, rfl, hrow, ?_⟩
    refine ⟨.int W, rfl, .int n, rfl, W, n, rfl, rfl, by omega, rfl, _, rfl, ?_⟩
    refine iteNS (congrArg V.int wz) ?_
    intro Kd hK
    have sK := same_new (o := .dT []) hK
    intro L0 hL0
    have sL0 := same_new (o := .dT []) hL0
    refine ⟨.ref R, rfl, R, (1 : Nat), o, ds, rfl, (Same.tups (sK.trans sL0)).row hrow, by omega, fun H1 C s1 nC eC => ?_⟩
    refine ⟨C, kI (ds.map fcD), rfl, by rw [kI_V]; exact eC, s1 _ _ upd_same, ?_⟩
    have nLK : L0 ≠ Kd := fun z => by rw [z, upd_same] at hL0; cases hL0
    have nL : H L0 = none := sK.free hL0
    have e0 : [(kI (ds.map fcD), V.int 0)] = emb V.int [(ds.map fcD, 0)] := rfl
    rw [e0]
    refine ⟨.int n, rfl, n, rfl, by omega, by omega, for_range (lo := 0) (n := n) (fun t σ H3 => ∃ y5 Ls ks es, σ = [some (.ref R), some (.int (n : Int)), some (.int W), some (.ref Kd), some (.ref Ls), y5] ∧ H3 Kd = some (.dT (emb V.ref ks)) ∧ Kept H3 1 ds o ks ∧ H3 Ls = some (.dT (emb V.int es)) ∧ Ls ≠ Kd ∧ GBi ds o W t es ∧ Same H H3)
      ⟨none, L0, [], [(ds.map fcD, 0)], rfl, ?_, ⟨List.nodup_nil, (fun _ z => nomatch z), (fun _ z => nomatch z)⟩, upd_same, nLK, gbi_first ds o W, ?_⟩ (fun t σ H3 ht hp => ?_) (fun σ H3 hp => ?_)⟩
    · rw [upd_ne nLK.symm]
      exact s1 _ _ (sL0 _ _ upd_same)
    · intro b u e
      rw [upd_ne (ne_of_none e nL)]
      exact s1 _ _ (sL0 _ _ (sK _ _ e))
    · obtain ⟨y5, Ls, ks, es, rfl, eK3, kp3, eL3, nLK3, g, s3⟩ := hp
      have tz : (0 + (t : Int)).toNat = t := by omega
      have wb : Builtin.bitAnd (W / 2 ^ ((0 + (t : Int)).toNat)) 1 = bitA t W := by
        rw [tz, bit_one (Int.ediv_nonneg w0 (by have := pw_pos t; omega))]
        rfl
      refine ⟨.ref R, rfl, .ref Kd, rfl, .ref Ls, rfl, .int (0 + t), rfl, .int W, rfl, .int (0 + t), rfl, W, 0 + t, rfl, rfl, by omega, _, 1, rfl, rfl, R, Kd, Ls, t, bitA t W, o, ds, ks, es, ?_, by omega, (Same.tups s3).row hrow, hok, eK3, kp3, eL3, nLK3, g.nd, fun e he => ?_, fun H4 p ts ks' b4 eK4 kp4 np ep mrp => ?_⟩
      · show [V.ref R, V.ref Kd, V.ref Ls, V.int (0 + (t : Int)), V.int (Builtin.bitAnd (W / 2 ^ ((0 + (t : Int)).toNat)) 1)] = _
        rw [wb, Int.zero_add]
      · have sh := rch_shp (crry_rch ds [e.2] t)
        rw [(g.sound e he).2.2.1] at sh
        exact ⟨sh.len, sh.bits⟩
      · refine ⟨_, p, ks', ts, rfl, eK4, kp4, ep, (fun z => by rw [z, eK3] at np; cases np), gbi_next g mrp, fun b u e => ?_⟩
        exact b4 b u (ne_of_none e hK) (s3 b u e)
    · obtain ⟨y5, Ls, ks, es, rfl, eK3, kp3, eL3, nLK3, g, s3⟩ := hp
      have dsok : DsOk (1 : Nat) ds := hok.deeds
      refine ⟨.ref Ls, rfl, Ls, _, rfl, eL3, ?_⟩
      cases es with
      | nil =>
        refine q _ _ s3 (.inl ⟨rfl, fun x x0 x1 hx => ?_⟩)
        obtain ⟨u, hu, _⟩ := g.all x x0 x1 ((mt_iff dsok x0 x1 w0 w1).mpr hx)
        cases hu
      | cons e es =>
        refine ⟨.ref Ls, rfl, .inr (.inr (.inl ⟨rfl, .inr ⟨_, eL3⟩⟩)), Ls, _, rfl, rfl, eL3, fun p hp => ?_⟩
        have sp := same_new (o := valsO p Ls) hp
        refine ⟨p, Ls, _, (e :: es).map (·.2), rfl, upd_same, sp _ _ eL3, ?_, by simp, fun z hz hmin => ?_⟩
        · unfold emb
          rw [List.map_map, List.map_map]
          rfl
        · obtain ⟨e1, he1, rfl⟩ := List.mem_map.mp hz
          obtain ⟨a0, a1, a2, a3⟩ := g.sound e1 he1
          refine q _ _ (s3.trans sp) (.inr ⟨e1.2, rfl, a0, a1, (mt_iff dsok a0 a1 w0 w1).mp a3, fun x x0 x1 hx => ?_⟩)
          obtain ⟨u, hu, hle⟩ := g.all x x0 x1 ((mt_iff dsok x0 x1 w0 w1).mpr hx)
          have := hmin u (List.mem_map.mpr ⟨_, hu, rfl⟩)
          omega
inductive Nm where
  | clear | set | turn | add | twice | leave
instance : DecidableEq Nm := fun a b => by cases a <;> cases b <;> first | exact isTrue rfl | exact isFalse (fun h => nomatch h)
def nmS : Nm → Str
  | .clear => "clear"
  | .set => "set"
  | .turn => "turn"
  | .add => "add"
  | .twice => "twice"
  | .leave => "leave"
def bitDs (m k : Nat) : List Deed := ("one", []) :: (List.range k).map fun t => ("twice", [((m + t : Nat) : Int)])
def moreD (c : Nm) (m k a : Nat) : List Deed :=
  match c with
  | .clear => [("and", [(a : Int), ((m + k : Nat) : Int)]), ("sub", [(a : Int), ((m + k + 1 : Nat) : Int)])]
  | .set => [("or", [(a : Int), ((m + k : Nat) : Int)])]
  | .turn => [("xor", [(a : Int), ((m + k : Nat) : Int)])]
  | .add => [("add", [(a : Int), ((m + k : Nat) : Int)])]
  | .twice => [("and", [(a : Int), ((m + k : Nat) : Int)]), ("add", [(a : Int), ((m + k + 1 : Nat) : Int)])]
  | .leave => []
def rowD (c : Nm) (m k a : Nat) : List Deed := bitDs m k ++ moreD c m k a
def outN (c : Nm) (m k a : Nat) : Nat :=
  match c with
  | .leave => a
  | .clear => m + k + 2
  | .twice => m + k + 2
  | _ => m + k + 1
/-- what comes of a word -/
def cfW (c : Nm) (k n : Nat) (x : Int) : Int :=
  if n ≤ k then x else
  match c with
  | .clear => x - x / 2 ^ k % 2 * 2 ^ k
  | .set => x + (1 - x / 2 ^ k % 2) * 2 ^ k
  | .turn => x + (1 - 2 * (x / 2 ^ k % 2)) * 2 ^ k
  | .add => (x + 1 * 2 ^ k) % 2 ^ n
  | .twice => (x + x / 2 ^ k % 2 * 2 ^ k) % 2 ^ n
  | .leave => x
/-- the same of what stands above the bit's place -/
def fW (c : Nm) (w : Nat) (h : Int) : Int :=
  match c with
  | .clear => h - h % 2
  | .set => h + (1 - h % 2)
  | .turn => h + (1 - 2 * (h % 2))
  | .add => (h + 1) % 2 ^ w
  | .twice => (h + h % 2) % 2 ^ w
  | .leave => h
theorem nat_split_and {k h l h' l' : Nat} (hl : l < 2 ^ k) (hl' : l' < 2 ^ k) : (2 ^ k * h + l) &&& (2 ^ k * h' + l') = 2 ^ k * (h &&& h') + (l &&& l') := by
  apply Nat.eq_of_testBit_eq
  intro j
  rw [Nat.testBit_and, Nat.testBit_two_pow_mul_add _ hl, Nat.testBit_two_pow_mul_add _ hl', Nat.testBit_two_pow_mul_add _ (Nat.and_lt_two_pow l hl')]
  split
  · rw [Nat.testBit_and]
  · rw [Nat.testBit_and]
theorem nat_split_or {k h l h' l' : Nat} (hl : l < 2 ^ k) (hl' : l' < 2 ^ k) : (2 ^ k * h + l) ||| (2 ^ k * h' + l') = 2 ^ k * (h ||| h') + (l ||| l') := by
  apply Nat.eq_of_testBit_eq
  intro j
  rw [Nat.testBit_or, Nat.testBit_two_pow_mul_add _ hl, Nat.testBit_two_pow_mul_add _ hl', Nat.testBit_two_pow_mul_add _ (Nat.or_lt_two_pow hl hl')]
  split
  · rw [Nat.testBit_or]
  · rw [Nat.testBit_or]
theorem nat_split_xor {k h l h' l' : Nat} (hl : l < 2 ^ k) (hl' : l' < 2 ^ k) : (2 ^ k * h + l) ^^^ (2 ^ k * h' + l') = 2 ^ k * (h ^^^ h') + (l ^^^ l') := by
  apply Nat.eq_of_testBit_eq
  intro j
  rw [Nat.testBit_xor, Nat.testBit_two_pow_mul_add _ hl, Nat.testBit_two_pow_mul_add _ hl', Nat.testBit_two_pow_mul_add _ (Nat.xor_lt_two_pow hl hl')]
  split
  · rw [Nat.testBit_xor]
  · rw [Nat.testBit_xor]
theorem nat_one (h : Nat) : (h ||| 1 = h + (1 - h % 2)) ∧ (h ^^^ 1 = h + 1 - 2 * (h % 2)) := by
  have e : h = 2 ^ 1 * (h / 2) + h % 2 := by omega
  have e1 : (1 : Nat) = 2 ^ 1 * 0 + 1 := rfl
  have hl : h % 2 < 2 ^ 1 := by
    have := Nat.mod_lt h (show 0 < 2 by decide)
    omega
  have o := nat_split_or (h := h / 2) (h' := 0) hl (show 1 < 2 ^ 1 by decide)
  have x := nat_split_xor (h := h / 2) (h' := 0) hl (show 1 < 2 ^ 1 by decide)
  rw [← e, ← e1, Nat.or_zero] at o
  rw [← e, ← e1, Nat.xor_zero] at x
  have c : h % 2 = 0 ∨ h % 2 = 1 := by omega
  constructor
  · rw [o]
    rcases c with z | z
    · rw [z]
      show 2 ^ 1 * (h / 2) + 1 = _
      omega
    · rw [z]
      show 2 ^ 1 * (h / 2) + 1 = _
      omega
  · rw [x]
    rcases c with z | z
    · rw [z]
      show 2 ^ 1 * (h / 2) + 1 = _
      omega
    · rw [z]
      show 2 ^ 1 * (h / 2) + 0 = _
      omega
theorem nat_mask (a k : Nat) : (a &&& 2 ^ k = a / 2 ^ k % 2 * 2 ^ k) ∧ (a ||| 2 ^ k = a + (1 - a / 2 ^ k % 2) * 2 ^ k) ∧ ((a ^^^ 2 ^ k) + 2 * (a / 2 ^ k % 2 * 2 ^ k) = a + 2 ^ k) := by
  have e : a = 2 ^ k * (a / 2 ^ k) + a % 2 ^ k := (Nat.div_add_mod a (2 ^ k)).symm
  have hl : a % 2 ^ k < 2 ^ k := Nat.mod_lt _ (Nat.two_pow_pos k)
  have e1 : 2 ^ k = 2 ^ k * 1 + 0 := by omega
  have z0 : 0 < 2 ^ k := Nat.two_pow_pos k
  have pa := nat_split_and (h := a / 2 ^ k) (h' := 1) hl z0
  have po := nat_split_or (h := a / 2 ^ k) (h' := 1) hl z0
  have px := nat_split_xor (h := a / 2 ^ k) (h' := 1) hl z0
  rw [← e, ← e1] at pa po px
  obtain ⟨o1, x1⟩ := nat_one (a / 2 ^ k)
  rw [Nat.and_one_is_mod, Nat.and_zero] at pa
  rw [o1, Nat.or_zero, Nat.mul_add] at po
  rw [x1, Nat.xor_zero] at px
  have c : a / 2 ^ k % 2 = 0 ∨ a / 2 ^ k % 2 = 1 := by omega
  refine ⟨by rw [pa, Nat.mul_comm]; omega, ?_, ?_⟩
  · rw [po]
    rcases c with z | z <;> rw [z] <;> omega
  · rw [px]
    rcases c with z | z <;> rw [z]
    · rw [Nat.mul_zero, Nat.sub_zero, Nat.mul_add]
      omega
    · rw [show a / 2 ^ k + 1 - 2 * 1 = a / 2 ^ k - 1 by omega, Nat.mul_sub]
      have : 2 ^ k * 1 ≤ 2 ^ k * (a / 2 ^ k) := Nat.mul_le_mul_left _ (by omega)
      omega
theorem int_mask {x : Int} (k : Nat) (h : 0 ≤ x) : Builtin.bitAnd x (2 ^ k) = x / 2 ^ k % 2 * 2 ^ k ∧ Builtin.bitOr x (2 ^ k) = x + (1 - x / 2 ^ k % 2) * 2 ^ k ∧ Builtin.bitXor x (2 ^ k) = x + (1 - 2 * (x / 2 ^ k % 2)) * 2 ^ k := by
  obtain ⟨a, rfl⟩ := Int.eq_ofNat_of_zero_le h
  obtain ⟨pa, po, px⟩ := nat_mask a k
  have p0 : (0 : Int) ≤ 2 ^ k := Int.le_of_lt (pw_pos k)
  have ep : (2 : Int) ^ k = ((2 ^ k : Nat) : Int) := pw_cast k
  have eb : (a : Int) / 2 ^ k % 2 = ((a / 2 ^ k % 2 : Nat) : Int) := by rw [ep]; rfl
  have c : a / 2 ^ k % 2 = 0 ∨ a / 2 ^ k % 2 = 1 := by omega
  refine ⟨?_, ?_, ?_⟩
  · rw [bitAnd_pp h p0, eb]
    rw [ep, Int.toNat_natCast, Int.toNat_natCast, pa]
    exact Int.natCast_mul _ _
  · rw [bitOr_nn h p0, eb]
    rw [ep, Int.toNat_natCast, Int.toNat_natCast, po]
    rcases c with z | z <;> rw [z] <;> omega
  · rw [Bits.bitXor_pp h p0, eb]
    rw [ep, Int.toNat_natCast, Int.toNat_natCast]
    rcases c with z | z <;> rw [z] at px ⊢ <;> omega
theorem argAt_two {x : Str} {told : List Int} {a b : Nat} : argAt (x, [(a : Int), (b : Int)]) told 0 = told.getD a 0 ∧ argAt (x, [(a : Int), (b : Int)]) told 1 = told.getD b 0 := by
  constructor
  · show told.getD ((a : Int)).toNat 0 = _
    rw [Int.toNat_natCast]
  · show told.getD ((b : Int)).toNat 0 = _
    rw [Int.toNat_natCast]
theorem getD_at {l r : List Int} {v : Int} {i : Nat} (h : l.length = i) : (l ++ v :: r).getD i 0 = v := by
  rw [List.getD_eq_getElem?_getD, List.getElem?_append_right (by omega), h, Nat.sub_self]
  rfl
theorem getD_fore {l r : List Int} {i : Nat} (h : i < l.length) : (l ++ r).getD i 0 = l.getD i 0 := by
  rw [List.getD_eq_getElem?_getD, List.getElem?_append_left h, List.getD_eq_getElem?_getD]
theorem bitDs_succ (m k : Nat) : bitDs m (k + 1) = bitDs m k ++ [(("twice", [((m + k : Nat) : Int)]) : Deed)] := by
  unfold bitDs
  rw [List.range_succ, List.map_append]
  rfl
theorem bitDs_len (m k : Nat) : (bitDs m k).length = k + 1 := by
  unfold bitDs
  rw [List.length_cons, List.length_map, List.length_range]
theorem dv_one (N : Int) (d : List Int) (told : List Int) : dval N ("one", d) told = 1 % N := rfl
/-- the masks made, one by one -/
theorem vals_bit {n m : Nat} {ws : List Int} (hm : ws.length = m) : ∀ k : Nat, vals (2 ^ n) (bitDs m k) ws = ws ++ (List.range k).map (fun (t : Nat) => (2 : Int) ^ t % 2 ^ n) ++ [(2 : Int) ^ k % 2 ^ n]
  | 0 => by
    show ws ++ [dval (2 ^ n) ("one", []) ws] = ws ++ [] ++ [(2 : Int) ^ 0 % 2 ^ n]
    rw [dv_one, List.append_nil, Int.pow_zero]
  | k + 1 => by
    have hl : (ws ++ (List.range k).map (fun (t : Nat) => (2 : Int) ^ t % 2 ^ n)).length = m + k := by rw [List.length_append, List.length_map, List.length_range, hm]
    rw [bitDs_succ, vals_append, vals_bit hm k, List.range_succ, List.map_append, ← List.append_assoc]
    show _ ++ [dval (2 ^ n) ("twice", [((m + k : Nat) : Int)]) _] = _
    have ea : argAt (("twice", [((m + k : Nat) : Int)]) : Deed) (ws ++ (List.range k).map (fun (t : Nat) => (2 : Int) ^ t % 2 ^ n) ++ [(2 : Int) ^ k % 2 ^ n]) 0 = (2 : Int) ^ k % 2 ^ n := by
      show (_ : List Int).getD ((m + k : Nat) : Int).toNat 0 = _
      rw [Int.toNat_natCast]
      exact getD_at hl
    have ed : dval (2 ^ n) (("twice", [((m + k : Nat) : Int)]) : Deed) (ws ++ (List.range k).map (fun (t : Nat) => (2 : Int) ^ t % 2 ^ n) ++ [(2 : Int) ^ k % 2 ^ n]) = (2 : Int) ^ (k + 1) % 2 ^ n := by
      unfold dval
      rw [ea]
      show ((2 : Int) ^ k % 2 ^ n + 2 ^ k % 2 ^ n) % 2 ^ n = _
      rw [← Int.add_emod, Int.pow_succ]
      congr 1
      omega
    rw [ed]
    rfl
theorem pow_split {k n : Nat} (h : k < n) : (2 : Int) ^ n = 2 ^ k * (2 * 2 ^ (n - k - 1)) := by
  have : n = k + (1 + (n - k - 1)) := by omega
  conv => lhs; rw [this, Int.pow_add, Int.pow_add]
  rfl
/-- what comes stays below -/
theorem mod_split {q l a T : Int} (l0 : 0 ≤ l) (l1 : l < q) (hT : 0 < T) : (a * q + l) % (q * T) = a % T * q + l := by
  have hq : 0 < q := by omega
  have e : a * q + l = (a % T * q + l) + q * T * (a / T) := by
    have h := Int.mul_ediv_add_emod a T
    have h2 : a * q = (T * (a / T) + a % T) * q := by rw [h]
    rw [h2, Int.add_mul, Int.mul_comm (T * (a / T)) q, Int.mul_assoc q T]
    omega
  have a0 := Int.emod_nonneg a (Int.ne_of_gt hT)
  have a1 := Int.emod_lt_of_pos a hT
  have m0 : 0 ≤ a % T * q := Int.mul_nonneg a0 (Int.le_of_lt hq)
  have m1 : (a % T + 1) * q ≤ T * q := Int.mul_le_mul_of_nonneg_right (by omega) (Int.le_of_lt hq)
  rw [Int.add_mul, Int.one_mul, Int.mul_comm T q] at m1
  rw [e, Int.add_mul_emod_self_left, Int.emod_eq_of_lt (by omega) (by omega)]
/-- the worth by what stands above the bit's place -/
theorem cf_f {c : Nm} {k n : Nat} {x : Int} (h : k < n) (x0 : 0 ≤ x) (x1 : x < 2 ^ n) : cfW c k n x = fW c (n - k) (x / 2 ^ k) * 2 ^ k + x % 2 ^ k ∧ 0 ≤ x / 2 ^ k ∧ x / 2 ^ k < 2 ^ (n - k) := by
  have hp := pw_pos k
  have hd := Int.mul_ediv_add_emod x (2 ^ k)
  have l0 := Int.emod_nonneg x (Int.ne_of_gt hp)
  have l1 := Int.emod_lt_of_pos x hp
  have h0 : 0 ≤ x / 2 ^ k := Int.ediv_nonneg x0 (Int.le_of_lt hp)
  have eN : (2 : Int) ^ n = 2 ^ k * 2 ^ (n - k) := by
    rw [← Int.pow_add]
    congr 1
    omega
  have hT := pw_pos (n - k)
  have h1 : x / 2 ^ k < 2 ^ (n - k) := Int.ediv_lt_of_lt_mul hp (by rw [Int.mul_comm, ← eN]; exact x1)
  refine ⟨?_, h0, h1⟩
  unfold cfW
  rw [if_neg (by omega)]
  generalize hh : x / 2 ^ k = h at *
  generalize hl : x % 2 ^ k = l at *
  have ex : x = h * 2 ^ k + l := by rw [Int.mul_comm]; omega
  cases c
  · show x - h % 2 * 2 ^ k = (h - h % 2) * 2 ^ k + l
    rw [Int.sub_mul]
    omega
  · show x + (1 - h % 2) * 2 ^ k = (h + (1 - h % 2)) * 2 ^ k + l
    rw [Int.add_mul]
    omega
  · show x + (1 - 2 * (h % 2)) * 2 ^ k = (h + (1 - 2 * (h % 2))) * 2 ^ k + l
    rw [Int.add_mul]
    omega
  · show (x + 1 * 2 ^ k) % 2 ^ n = (h + 1) % 2 ^ (n - k) * 2 ^ k + l
    rw [← mod_split l0 l1 hT, ← eN]
    congr 1
    rw [Int.add_mul]
    omega
  · show (x + h % 2 * 2 ^ k) % 2 ^ n = (h + h % 2) % 2 ^ (n - k) * 2 ^ k + l
    rw [← mod_split l0 l1 hT, ← eN]
    congr 1
    rw [Int.add_mul]
    omega
  · exact ex
theorem fW_range {c : Nm} {w : Nat} {h : Int} (hw : 1 ≤ w) (h0 : 0 ≤ h) (h1 : h < 2 ^ w) : 0 ≤ fW c w h ∧ fW c w h < 2 ^ w := by
  have hT := pw_pos w
  have e : (2 : Int) ^ w = 2 * 2 ^ (w - 1) := by
    obtain ⟨u, rfl⟩ : ∃ u, w = u + 1 := ⟨w - 1, by omega⟩
    rw [Int.pow_succ, Nat.add_sub_cancel, Int.mul_comm]
  cases c
  · show 0 ≤ h - h % 2 ∧ h - h % 2 < _
    omega
  · show 0 ≤ h + (1 - h % 2) ∧ h + (1 - h % 2) < _
    omega
  · show 0 ≤ h + (1 - 2 * (h % 2)) ∧ h + (1 - 2 * (h % 2)) < _
    omega
  · exact ⟨Int.emod_nonneg _ (Int.ne_of_gt hT), Int.emod_lt_of_pos _ hT⟩
  · exact ⟨Int.emod_nonneg _ (Int.ne_of_gt hT), Int.emod_lt_of_pos _ hT⟩
  · exact ⟨h0, h1⟩
theorem cf_range {c : Nm} {k n : Nat} {x : Int} (x0 : 0 ≤ x) (x1 : x < 2 ^ n) : 0 ≤ cfW c k n x ∧ cfW c k n x < 2 ^ n := by
  by_cases h : n ≤ k
  · unfold cfW
    rw [if_pos h]
    exact ⟨x0, x1⟩
  · obtain ⟨e, h0, h1⟩ := cf_f (c := c) (k := k) (n := n) (by omega) x0 x1
    obtain ⟨f0, f1⟩ := fW_range (c := c) (by omega : 1 ≤ n - k) h0 h1
    have hp := pw_pos k
    have l0 := Int.emod_nonneg x (Int.ne_of_gt hp)
    have l1 := Int.emod_lt_of_pos x hp
    have eN : (2 : Int) ^ n = 2 ^ k * 2 ^ (n - k) := by
      rw [← Int.pow_add]
      congr 1
      omega
    have m0 : 0 ≤ fW c (n - k) (x / 2 ^ k) * 2 ^ k := Int.mul_nonneg f0 (Int.le_of_lt hp)
    have m1 : (fW c (n - k) (x / 2 ^ k) + 1) * 2 ^ k ≤ 2 ^ (n - k) * 2 ^ k := Int.mul_le_mul_of_nonneg_right (by omega) (Int.le_of_lt hp)
    rw [Int.add_mul, Int.one_mul, Int.mul_comm (2 ^ (n - k)), ← eN] at m1
    rw [e]
    omega
/-- the worth of such a row -/
theorem wr51 {c : Nm} {m k a n : Nat} {ws : List Int} (hm : ws.length = m) (ha : a < m) (hx : ∀ x ∈ ws, 0 ≤ x ∧ x < 2 ^ n) : (vals (2 ^ n) (rowD c m k a) ws).getD (outN c m k a) 0 = cfW c k n (ws.getD a 0) := by
  obtain ⟨x0, x1⟩ : 0 ≤ ws.getD a 0 ∧ ws.getD a 0 < 2 ^ n := by
    rw [List.getD_eq_getElem?_getD, List.getElem?_eq_getElem (by omega)]
    exact hx _ (List.getElem_mem _)
  have hN := pw_pos n
  have hp := pw_pos k
  unfold rowD
  rw [vals_append, vals_bit hm k]
  obtain ⟨T, hT⟩ : ∃ T, T = ws ++ (List.range k).map (fun (t : Nat) => (2 : Int) ^ t % 2 ^ n) ++ [(2 : Int) ^ k % 2 ^ n] := ⟨_, rfl⟩
  have hl : (ws ++ (List.range k).map (fun (t : Nat) => (2 : Int) ^ t % 2 ^ n)).length = m + k := by rw [List.length_append, List.length_map, List.length_range, hm]
  have Tl : T.length = m + k + 1 := by rw [hT, List.length_append, hl]; rfl
  have Ta : T.getD a 0 = ws.getD a 0 := by rw [hT, List.append_assoc]; exact getD_fore (by omega)
  have Tm : T.getD (m + k) 0 = (2 : Int) ^ k % 2 ^ n := by rw [hT]; exact getD_at hl
  rw [← hT]
  clear hT hl
  generalize hxx : ws.getD a 0 = x at *
  have two : ∀ (v : Int), (T ++ [v]).getD a 0 = x ∧ (T ++ [v]).getD (m + k + 1) 0 = v := fun v => ⟨by rw [getD_fore (by omega)]; exact Ta, getD_at Tl⟩
  have one : ∀ (w : Str), (vals (2 ^ n) [((w, [(a : Int), ((m + k : Nat) : Int)]) : Deed)] T).getD (m + k + 1) 0 = dvalue w x ((2 : Int) ^ k % 2 ^ n) (2 ^ n) % 2 ^ n := fun w => by
    show (T ++ [dval (2 ^ n) ((w, [(a : Int), ((m + k : Nat) : Int)]) : Deed) T]).getD (m + k + 1) 0 = _
    rw [getD_at Tl]
    unfold dval
    rw [argAt_two.1, argAt_two.2, Ta, Tm]
  have dbl : ∀ (w1 w2 : Str), (vals (2 ^ n) [((w1, [(a : Int), ((m + k : Nat) : Int)]) : Deed), ((w2, [(a : Int), ((m + k + 1 : Nat) : Int)]) : Deed)] T).getD (m + k + 2) 0 = dvalue w2 x (dvalue w1 x ((2 : Int) ^ k % 2 ^ n) (2 ^ n) % 2 ^ n) (2 ^ n) % 2 ^ n := fun w1 w2 => by
    show (T ++ [dval (2 ^ n) ((w1, [(a : Int), ((m + k : Nat) : Int)]) : Deed) T] ++ [dval (2 ^ n) ((w2, [(a : Int), ((m + k + 1 : Nat) : Int)]) : Deed) (T ++ [dval (2 ^ n) ((w1, [(a : Int), ((m + k : Nat) : Int)]) : Deed) T])]).getD (m + k + 2) 0 = _
    rw [getD_at (by rw [List.length_append, Tl]; rfl)]
    have e1 : dval (2 ^ n) ((w1, [(a : Int), ((m + k : Nat) : Int)]) : Deed) T = dvalue w1 x ((2 : Int) ^ k % 2 ^ n) (2 ^ n) % 2 ^ n := by
      unfold dval
      rw [argAt_two.1, argAt_two.2, Ta, Tm]
    rw [e1]
    unfold dval
    rw [argAt_two.1, argAt_two.2, (two _).1, (two _).2]
  have xm : x % 2 ^ n = x := Int.emod_eq_of_lt x0 x1
  have rng : ∀ {c : Nm}, cfW c k n x % 2 ^ n = cfW c k n x := fun {c} => by
    obtain ⟨z0, z1⟩ := cf_range (c := c) (k := k) x0 x1
    exact Int.emod_eq_of_lt z0 z1
  by_cases h : n ≤ k
  · -- the bit stands beyond the width
    have M0 : (2 : Int) ^ k % 2 ^ n = 0 := by
      have : (2 : Int) ^ k = 2 ^ n * 2 ^ (k - n) := by
        rw [← Int.pow_add]
        congr 1
        omega
      rw [this, Int.mul_emod_right]
    rw [M0] at one dbl
    obtain ⟨A0, O0, X0⟩ : Builtin.bitAnd x 0 = 0 ∧ Builtin.bitOr x 0 = x ∧ Builtin.bitXor x 0 = x := by
      obtain ⟨u, rfl⟩ := Int.eq_ofNat_of_zero_le x0
      refine ⟨?_, ?_, ?_⟩
      · rw [bitAnd_pp x0 (Int.le_refl 0)]
        show ((u &&& 0 : Nat) : Int) = 0
        rw [Nat.and_zero]
        rfl
      · rw [bitOr_nn x0 (Int.le_refl 0)]
        show ((u ||| 0 : Nat) : Int) = _
        rw [Nat.or_zero]
      · rw [Bits.bitXor_pp x0 (Int.le_refl 0)]
        show ((u ^^^ 0 : Nat) : Int) = _
        rw [Nat.xor_zero]
    have ec : cfW c k n x = x := by unfold cfW; rw [if_pos h]
    rw [ec]
    cases c
    · refine (dbl "and" "sub").trans ?_
      show (x - Builtin.bitAnd x 0 % 2 ^ n) % 2 ^ n = x
      rw [A0, Int.zero_emod, Int.sub_zero, xm]
    · refine (one "or").trans ?_
      show Builtin.bitOr x 0 % 2 ^ n = x
      rw [O0, xm]
    · refine (one "xor").trans ?_
      show Builtin.bitXor x 0 % 2 ^ n = x
      rw [X0, xm]
    · refine (one "add").trans ?_
      show (x + 0) % 2 ^ n = x
      rw [Int.add_zero, xm]
    · refine (dbl "and" "add").trans ?_
      show (x + Builtin.bitAnd x 0 % 2 ^ n) % 2 ^ n = x
      rw [A0, Int.zero_emod, Int.add_zero, xm]
    · exact Ta
  · have M1 : (2 : Int) ^ k % 2 ^ n = 2 ^ k := by
      refine Int.emod_eq_of_lt (Int.le_of_lt hp) ?_
      rw [pow_split (by omega : k < n)]
      have := pw_pos (n - k - 1)
      have h2 : (2 : Int) ^ k * 1 < 2 ^ k * (2 * 2 ^ (n - k - 1)) := Int.mul_lt_mul_of_pos_left (by omega) hp
      omega
    rw [M1] at one dbl
    obtain ⟨A1, O1, X1⟩ := int_mask k x0
    have bm : Builtin.bitAnd x (2 ^ k) % 2 ^ n = Builtin.bitAnd x (2 ^ k) := by
      rw [A1]
      have c1 := cf_range (c := .clear) (k := k) x0 x1
      unfold cfW at c1
      rw [if_neg h] at c1
      have hb : 0 ≤ x / 2 ^ k % 2 * 2 ^ k := Int.mul_nonneg (Int.emod_nonneg _ (by decide)) (Int.le_of_lt hp)
      have c1' : 0 ≤ x - x / 2 ^ k % 2 * 2 ^ k ∧ x - x / 2 ^ k % 2 * 2 ^ k < 2 ^ n := c1
      exact Int.emod_eq_of_lt hb (by omega)
    cases c
    · refine (dbl "and" "sub").trans ?_
      show (x - Builtin.bitAnd x (2 ^ k) % 2 ^ n) % 2 ^ n = _
      rw [bm, A1, ← rng]
      congr 1
      unfold cfW
      rw [if_neg h]
    · refine (one "or").trans ?_
      show Builtin.bitOr x (2 ^ k) % 2 ^ n = _
      rw [O1, ← rng]
      congr 1
      unfold cfW
      rw [if_neg h]
    · refine (one "xor").trans ?_
      show Builtin.bitXor x (2 ^ k) % 2 ^ n = _
      rw [X1, ← rng]
      congr 1
      unfold cfW
      rw [if_neg h]
    · refine (one "add").trans ?_
      show (x + 2 ^ k) % 2 ^ n = _
      unfold cfW
      rw [if_neg h]
      show _ = (x + 1 * 2 ^ k) % 2 ^ n
      rw [Int.one_mul]
    · refine (dbl "and" "add").trans ?_
      show (x + Builtin.bitAnd x (2 ^ k) % 2 ^ n) % 2 ^ n = _
      rw [bm, A1]
      unfold cfW
      rw [if_neg h]
    · refine Ta.trans ?_
      unfold cfW
      rw [if_neg h]
def dfW (c d : Nm) (g : Bool) (w : Nat) : Bool := (List.range (2 ^ w)).any fun (j : Nat) => decide (fW d w j < fW c w j) || (!g && decide (fW c w j < fW d w j))
def lwW (c d : Nm) (g : Bool) : Nat := if dfW c d g 1 = true then 1 else if dfW c d g 2 = true then 2 else if dfW c d g 3 = true then 3 else 0
/-- what parts, above the bit's place -/
def DF (c d : Nm) (g : Bool) (w : Nat) : Prop := ∃ h : Int, 0 ≤ h ∧ h < 2 ^ w ∧ (fW d w h < fW c w h ∨ (g = false ∧ fW c w h < fW d w h))
theorem df_iff {c d : Nm} {g : Bool} {w : Nat} : dfW c d g w = true ↔ DF c d g w := by
  unfold dfW DF
  rw [List.any_eq_true]
  constructor
  · rintro ⟨j, hj, h⟩
    have hj := List.mem_range.mp hj
    refine ⟨(j : Int), Int.natCast_nonneg _, ?_, ?_⟩
    · rw [pw_cast]
      omega
    · rcases Bool.or_eq_true _ _ |>.mp h with z | z
      · exact .inl (of_decide_eq_true z)
      · obtain ⟨a, b⟩ := Bool.and_eq_true _ _ |>.mp z
        refine .inr ⟨?_, of_decide_eq_true b⟩
        cases g
        · rfl
        · cases a
  · rintro ⟨h, h0, h1, z⟩
    obtain ⟨j, rfl⟩ := Int.eq_ofNat_of_zero_le h0
    refine ⟨j, List.mem_range.mpr ?_, ?_⟩
    · rw [pw_cast] at h1
      omega
    · rcases z with z | ⟨rfl, z⟩
      · rw [decide_eq_true z]
        rfl
      · rw [decide_eq_true z]
        cases decide (fW d w (j : Int) < fW c w (j : Int)) <;> rfl
theorem pow_two {w : Nat} (hw : 1 ≤ w) : (2 : Int) ^ w = 2 * 2 ^ (w - 1) := by
  obtain ⟨u, rfl⟩ : ∃ u, w = u + 1 := ⟨w - 1, by omega⟩
  rw [Int.pow_succ, Nat.add_sub_cancel, Int.mul_comm]
theorem twice_le_add {w : Nat} {h : Int} (hw : 1 ≤ w) (h0 : 0 ≤ h) (h1 : h < 2 ^ w) : (h + h % 2) % 2 ^ w ≤ (h + 1) % 2 ^ w := by
  have e := pow_two hw
  rcases (show h % 2 = 0 ∨ h % 2 = 1 by omega) with z | z
  · rw [z, Int.add_zero, Int.emod_eq_of_lt h0 h1, Int.emod_eq_of_lt (by omega) (by omega)]
    omega
  · rw [z]
    exact Int.le_refl _
/-- where the first three widths show nothing, none does -/
theorem lw_never {c d : Nm} {g : Bool} (h : lwW c d g = 0) : ∀ w, 1 ≤ w → ¬ DF c d g w := by
  intro w hw
  rintro ⟨x, x0, x1, z⟩
  have e := pow_two hw
  cases g
  · have : c = d := by
      cases c <;> cases d <;> first | rfl | exact absurd h (by decide +kernel)
    subst this
    rcases z with z | ⟨_, z⟩ <;> exact absurd z (Int.lt_irrefl _)
  · rcases z with z | ⟨z, _⟩
    · cases c <;> cases d <;> first | exact absurd h (by decide +kernel) | exact absurd z (Int.lt_irrefl _) | skip
      · have z' : x + (1 - x % 2) < x - x % 2 := z
        omega
      · have z' : x + (1 - 2 * (x % 2)) < x - x % 2 := z
        omega
      · have z' : x < x - x % 2 := z
        omega
      · have z' : x + (1 - x % 2) < x + (1 - 2 * (x % 2)) := z
        omega
      · have z' : (x + 1) % 2 ^ w < (x + x % 2) % 2 ^ w := z
        have := twice_le_add hw x0 x1
        omega
      · have z' : x + (1 - x % 2) < x := z
        omega
    · cases z
theorem lw_least {c d : Nm} {g : Bool} {w : Nat} (hw : 1 ≤ w) (h : DF c d g w) (n : ∀ v, 1 ≤ v → v < w → ¬ DF c d g v) : lwW c d g = w := by
  have no : ∀ v, 1 ≤ v → v < w → ¬ dfW c d g v = true := fun v v1 vw z => n v v1 vw (df_iff.mp z)
  have y := df_iff.mpr h
  by_cases h4 : 4 ≤ w
  · refine absurd h (lw_never ?_ w hw)
    unfold lwW
    rw [if_neg (no 1 (by omega) (by omega)), if_neg (no 2 (by omega) (by omega)), if_neg (no 3 (by omega) (by omega))]
  · unfold lwW
    rcases (show w = 1 ∨ w = 2 ∨ w = 3 by omega) with rfl | rfl | rfl
    · rw [if_pos y]
    · rw [if_neg (no 1 (by omega) (by omega)), if_pos y]
    · rw [if_neg (no 1 (by omega) (by omega)), if_neg (no 2 (by omega) (by omega)), if_pos y]
/-- the same of whole words -/
def PW (c d : Nm) (g : Bool) (k n : Nat) : Prop := ∃ x : Int, 0 ≤ x ∧ x < 2 ^ n ∧ (cfW d k n x < cfW c k n x ∨ (g = false ∧ cfW c k n x < cfW d k n x))
theorem scaled_lt {a b q l : Int} (hq : 0 < q) : a * q + l < b * q + l ↔ a < b := by
  constructor
  · intro h
    false_or_by_contra
    rename_i n
    have := Int.mul_le_mul_of_nonneg_right (by omega : b ≤ a) (Int.le_of_lt hq)
    omega
  · intro h
    have := Int.mul_lt_mul_of_pos_right h hq
    omega
theorem pw_df {c d : Nm} {g : Bool} {k n : Nat} (h : k < n) : PW c d g k n ↔ DF c d g (n - k) := by
  have hp := pw_pos k
  constructor
  · rintro ⟨x, x0, x1, z⟩
    obtain ⟨e1, h0, h1⟩ := cf_f (c := c) h x0 x1
    obtain ⟨e2, _, _⟩ := cf_f (c := d) h x0 x1
    rw [e1, e2, scaled_lt hp, scaled_lt hp] at z
    exact ⟨x / 2 ^ k, h0, h1, z⟩
  · rintro ⟨u, u0, u1, z⟩
    have eN : (2 : Int) ^ n = 2 ^ (n - k) * 2 ^ k := by
      rw [← Int.pow_add]
      congr 1
      omega
    have x0 : 0 ≤ u * 2 ^ k := Int.mul_nonneg u0 (Int.le_of_lt hp)
    have x1 : u * 2 ^ k < 2 ^ n := by
      rw [eN]
      exact Int.mul_lt_mul_of_pos_right u1 hp
    have ed : u * 2 ^ k / 2 ^ k = u := Int.mul_ediv_cancel _ (Int.ne_of_gt hp)
    obtain ⟨e1, _, _⟩ := cf_f (c := c) h x0 x1
    obtain ⟨e2, _, _⟩ := cf_f (c := d) h x0 x1
    refine ⟨u * 2 ^ k, x0, x1, ?_⟩
    rw [e1, e2, scaled_lt hp, scaled_lt hp, ed]
    exact z
theorem pw_low {c d : Nm} {g : Bool} {k n : Nat} (h : n ≤ k) : ¬ PW c d g k n := by
  rintro ⟨x, x0, x1, z⟩
  unfold cfW at z
  rw [if_pos h, if_pos h] at z
  rcases z with z | ⟨_, z⟩ <;> exact absurd z (Int.lt_irrefl _)
theorem pw_width {c d : Nm} {g : Bool} {k n : Nat} (h : PW c d g k n) (no : ∀ v, v < n → ¬ PW c d g k v) : lwW c d g ≠ 0 ∧ n = k + lwW c d g := by
  have hk : k < n := by
    false_or_by_contra
    exact pw_low (by omega) h
  have e := lw_least (c := c) (d := d) (g := g) (w := n - k) (by omega) ((pw_df hk).mp h) fun v v1 vw z => no (k + v) (by omega) ((pw_df (by omega)).mpr (by rw [show k + v - k = v by omega]; exact z))
  omega
theorem pw_none {c d : Nm} {g : Bool} {k : Nat} (no : ∀ n, ¬ PW c d g k n) : lwW c d g = 0 := by
  have nd : ∀ v, 1 ≤ v → ¬ dfW c d g v = true := fun v v1 z => no (k + v) ((pw_df (by omega)).mpr (by rw [show k + v - k = v by omega]; exact df_iff.mp z))
  unfold lwW
  rw [if_neg (nd 1 (by decide)), if_neg (nd 2 (by decide)), if_neg (nd 3 (by decide))]
theorem bitDs_ok {m : Nat} : ∀ k : Nat, DsOk (m : Int) (bitDs m k)
  | 0 => by
    have h0 : DsOk (m : Int) [] := ⟨fun j d h => by cases h⟩
    exact dsOk_snoc h0 (d := ("one", [])) ⟨(by show (("one" : Str), (0 : Int)) ∈ fwL; decide +kernel), fun i hi => nomatch hi⟩
  | k + 1 => by
    rw [bitDs_succ]
    refine dsOk_snoc (bitDs_ok k) ⟨(by show (("twice" : Str), (1 : Int)) ∈ fwL; decide +kernel), fun i hi => ?_⟩
    rw [List.mem_singleton.mp hi, bitDs_len]
    omega
theorem deed_two {x : Str} {M : Int} {a b : Nat} (hx : (x, (2 : Int)) ∈ fwL) (ha : (a : Int) < M) (hb : (b : Int) < M) : DeedOk M (x, [(a : Int), (b : Int)]) := ⟨hx, fun i hi => by
  rcases List.mem_cons.mp hi with rfl | hi
  · omega
  · rw [List.mem_singleton.mp hi]
    omega⟩
theorem row51_ok {c : Nm} {m k a : Nat} (m1 : 1 ≤ m) (m3 : m ≤ 3) (hk : k ≤ 5) (ha : a < m) : RowOk (m : Int) (rowD c m k a) ((outN c m k a : Nat) : Int) := by
  have hl := bitDs_len m k
  have hb := bitDs_ok (m := m) k
  have one : ∀ (x : Str), (x, (2 : Int)) ∈ fwL → DsOk (m : Int) (bitDs m k ++ [((x, [(a : Int), ((m + k : Nat) : Int)]) : Deed)]) := fun x hx => dsOk_snoc hb (deed_two hx (by rw [hl]; omega) (by rw [hl]; omega))
  have two : ∀ (x y : Str), (x, (2 : Int)) ∈ fwL → (y, (2 : Int)) ∈ fwL → DsOk (m : Int) (bitDs m k ++ [((x, [(a : Int), ((m + k : Nat) : Int)]) : Deed), ((y, [(a : Int), ((m + k + 1 : Nat) : Int)]) : Deed)]) := fun x y hx hy => by
    have := dsOk_snoc (one x hx) (d := ((y, [(a : Int), ((m + k + 1 : Nat) : Int)]) : Deed)) (deed_two hy (by rw [List.length_append, hl]; omega) (by rw [List.length_append, hl]; show ((m + k + 1 : Nat) : Int) < (m : Int) + ((k + 1 + 1 : Nat) : Int); omega))
    rwa [List.append_assoc] at this
  have ln : (rowD c m k a).length = k + 1 + (moreD c m k a).length := by
    unfold rowD
    rw [List.length_append, hl]
  refine ⟨by omega, by omega, ?_, ?_, by omega, ?_⟩
  · rw [ln]
    have : (moreD c m k a).length ≤ 2 := by cases c <;> first | exact Nat.le_refl 2 | exact Nat.le_succ 1 | exact Nat.zero_le 2
    omega
  · cases c
    · exact two _ _ (by decide +kernel) (by decide +kernel)
    · exact one _ (by decide +kernel)
    · exact one _ (by decide +kernel)
    · exact one _ (by decide +kernel)
    · exact two _ _ (by decide +kernel) (by decide +kernel)
    · show DsOk (m : Int) (bitDs m k ++ [])
      rw [List.append_nil]
      exact hb
  · rw [ln]
    cases c
    · show ((m + k + 2 : Nat) : Int) < (m : Int) + ((k + 1 + 2 : Nat) : Int)
      omega
    · show ((m + k + 1 : Nat) : Int) < (m : Int) + ((k + 1 + 1 : Nat) : Int)
      omega
    · show ((m + k + 1 : Nat) : Int) < (m : Int) + ((k + 1 + 1 : Nat) : Int)
      omega
    · show ((m + k + 1 : Nat) : Int) < (m : Int) + ((k + 1 + 1 : Nat) : Int)
      omega
    · show ((m + k + 2 : Nat) : Int) < (m : Int) + ((k + 1 + 2 : Nat) : Int)
      omega
    · show ((a : Nat) : Int) < (m : Int) + ((k + 1 + 0 : Nat) : Int)
      omega
theorem wr51o {c : Nm} {m k a n : Nat} {ws : List Int} (hm : ws.length = m) (ha : a < m) (hx : ∀ x ∈ ws, 0 ≤ x ∧ x < 2 ^ n) : (vals (2 ^ n) (rowD c m k a) ws).getD ((outN c m k a : Nat) : Int).toNat 0 = cfW c k n (ws.getD a 0) := by
  rw [Int.toNat_natCast]
  exact wr51 hm ha hx
/-- words of which one is told -/
def wsA (m a : Nat) (x : Int) : List Int := (List.range m).map fun i => if i = a then x else 0
theorem wsA_ok {m a n : Nat} {x : Int} (ha : a < m) (x0 : 0 ≤ x) (x1 : x < 2 ^ n) : (wsA m a x).length = m ∧ (wsA m a x).getD a 0 = x ∧ ∀ y ∈ wsA m a x, 0 ≤ y ∧ y < 2 ^ n := by
  unfold wsA
  refine ⟨by rw [List.length_map, List.length_range], ?_, fun y hy => ?_⟩
  · rw [List.getD_eq_getElem?_getD, List.getElem?_map, List.getElem?_range ha]
    show (if a = a then x else 0) = x
    rw [if_pos rfl]
  · obtain ⟨i, _, rfl⟩ := List.mem_map.mp hy
    split
    · exact ⟨x0, x1⟩
    · exact ⟨Int.le_refl _, pw_pos n⟩
theorem at_in {ws : List Int} {m a n : Nat} (hm : ws.length = m) (ha : a < m) (hx : ∀ x ∈ ws, 0 ≤ x ∧ x < 2 ^ n) : 0 ≤ ws.getD a 0 ∧ ws.getD a 0 < 2 ^ n := by
  rw [List.getD_eq_getElem?_getD, List.getElem?_eq_getElem (by omega)]
  exact hx _ (List.getElem_mem _)
section ev51
variable {c d : Nm} {m k a : Nat} (m1 : 1 ≤ m) (m3 : m ≤ 3) (hk : k ≤ 5) (ha : a < m)
include m1 m3 hk ha
theorem al_never {ps : List PC} {wy : List (Int × List Int)} (h : Bfs m (rowD c m k a) ((outN c m k a : Nat) : Int) (rowD d m k a) ((outN d m k a : Nat) : Int) ps wy ps.length) : lwW c d false = 0 := by
  refine pw_none (k := k) fun n => ?_
  rintro ⟨x, x0, x1, z⟩
  obtain ⟨w1, w2, w3⟩ := wsA_ok ha x0 x1
  have e := same_worth (row51_ok (c := c) m1 m3 hk ha) (row51_ok (c := d) m1 m3 hk ha) (fun t _ => bfs_never h t) w1 w3
  rw [wr51o w1 ha w3, wr51o w1 ha w3, w2] at e
  rw [e] at z
  rcases z with z | ⟨_, z⟩ <;> exact absurd z (Int.lt_irrefl _)
theorem al_apart {ps : List PC} {wy : List (Int × List Int)} {cu : Nat} {q : PC} {bs : List Int} (h : Bfs m (rowD c m k a) ((outN c m k a : Nat) : Int) (rowD d m k a) ((outN d m k a : Nat) : Int) ps wy cu) (hq : ps[cu]? = some q) (hb : bs ∈ allB m)
    (hne : ¬ ob (rowD c m k a) ((outN c m k a : Nat) : Int) q.1 bs = ob (rowD d m k a) ((outN d m k a : Nat) : Int) q.2 bs) :
    lwW c d false ≠ 0 ∧ (path wy cu ++ [bs]).length = k + lwW c d false ∧ (0 ≤ (wofL m (path wy cu ++ [bs])).getD a 0 ∧ (wofL m (path wy cu ++ [bs])).getD a 0 < 2 ^ (path wy cu ++ [bs]).length) ∧
      cfW c k (path wy cu ++ [bs]).length ((wofL m (path wy cu ++ [bs])).getD a 0) ≠ cfW d k (path wy cu ++ [bs]).length ((wofL m (path wy cu ++ [bs])).getD a 0) := by
  have ok1 := row51_ok (c := c) m1 m3 hk ha
  have ok2 := row51_ok (c := d) m1 m3 hk ha
  obtain ⟨hall, ne⟩ := bfs_apart h hq ok1 ok2 hb hne
  have hx := wofL_range hall
  have hm := wofL_len m (path wy cu ++ [bs])
  rw [wr51o hm ha hx, wr51o hm ha hx] at ne
  obtain ⟨x0, x1⟩ := at_in hm ha hx
  have hl : (path wy cu ++ [bs]).length = dep wy cu + 1 := by rw [List.length_append]; rfl
  obtain ⟨l1, l2⟩ := pw_width (c := c) (d := d) (g := false) (k := k) (n := (path wy cu ++ [bs]).length) ⟨_, x0, x1, by
    rcases Int.lt_or_gt_of_ne ne with z | z
    · exact .inr ⟨rfl, z⟩
    · exact .inl z⟩ fun v hv => by
    rintro ⟨x, x0, x1, z⟩
    obtain ⟨w1, w2, w3⟩ := wsA_ok ha x0 x1
    have e := bfs_least h (List.getElem?_eq_some_iff.mp hq).1 ok1 ok2 (n := v) (by omega) w1 w3
    rw [wr51o w1 ha w3, wr51o w1 ha w3, w2] at e
    rw [e] at z
    rcases z with z | ⟨_, z⟩ <;> exact absurd z (Int.lt_irrefl _)
  exact ⟨l1, l2, ⟨x0, x1⟩, ne⟩
end ev51
theorem rtG3 {m n : Nat} {ds1 ds2 : List Deed} {o1 o2 : Int} {xs : List Int} (ok1 : RowOk m ds1 o1) (ok2 : RowOk m ds2 o2) (hm : xs.length = m) (hx : ∀ x ∈ xs, 0 ≤ x ∧ x < 2 ^ n) :
    ∀ t, t ≤ n → RtG m (nx3 ds1 o1 ds2 o2) (fst3 ds1 ds2) t ((crry ds1 xs t, crry ds2 xs t), cmpS ((vals (2 ^ n) ds1 xs).getD o1.toNat 0 % 2 ^ t) ((vals (2 ^ n) ds2 xs).getD o2.toNat 0 % 2 ^ t))
  | 0, _ => by
    have e : ∀ v : Int, v % 2 ^ 0 = 0 := fun v => by rw [Int.pow_zero, Int.emod_one]
    rw [e, e]
    rfl
  | t + 1, ht => by
    have b1 := ob_bit (t := t) ok1 hm hx (by omega)
    have b2 := ob_bit (t := t) ok2 hm hx (by omega)
    refine ⟨_, xs.map (bitA t), rtG3 ok1 ok2 hm hx t (by omega), cols_in hm t, ?_⟩
    have p : (0 : Int) < 2 ^ t := pw_pos t
    have n1 : ∀ v : Int, 0 ≤ v % 2 ^ t ∧ v % 2 ^ t < 2 ^ t := fun v => ⟨Int.emod_nonneg _ (by omega), Int.emod_lt_of_pos _ p⟩
    rw [mod_next, mod_next, cmpS_next (n1 _) (n1 _) (bitA_bit t _) (bitA_bit t _), ← b1, ← b2]
    rfl
/-- words that make the row greater are met -/
theorem greater_met {m n : Nat} {ds1 ds2 : List Deed} {o1 o2 : Int} {xs : List Int} (ok1 : RowOk m ds1 o1) (ok2 : RowOk m ds2 o2) (hm : xs.length = m) (hx : ∀ x ∈ xs, 0 ≤ x ∧ x < 2 ^ (n + 1))
    (h : (vals (2 ^ (n + 1)) ds2 xs).getD o2.toNat 0 < (vals (2 ^ (n + 1)) ds1 xs).getD o1.toNat 0) : PrtSG m (nx3 ds1 o1 ds2 o2) (gd3 ds1 o1 ds2 o2) (fst3 ds1 ds2) n := by
  refine ⟨_, xs.map (bitA n), rtG3 ok1 ok2 hm hx n (by omega), cols_in hm n, fun g => g ?_⟩
  have b1 := ob_bit (t := n) ok1 hm hx (by omega)
  have b2 := ob_bit (t := n) ok2 hm hx (by omega)
  have p : (0 : Int) < 2 ^ n := pw_pos n
  have n1 : ∀ v : Int, 0 ≤ v % 2 ^ n ∧ v % 2 ^ n < 2 ^ n := fun v => ⟨Int.emod_nonneg _ (by omega), Int.emod_lt_of_pos _ p⟩
  show sgn (cmpS _ _) (ob ds1 o1 (crry ds1 xs n) (xs.map (bitA n))) (ob ds2 o2 (crry ds2 xs n) (xs.map (bitA n))) = 2
  rw [b1, b2, ← cmpS_next (n1 _) (n1 _) (bitA_bit n _) (bitA_bit n _), ← mod_next, ← mod_next, wr_range ok1 hm hx, wr_range ok2 hm hx]
  unfold cmpS
  rw [if_neg (by omega), if_neg (by omega)]
section ev51
variable {c d : Nm} {m k a : Nat} (m1 : 1 ≤ m) (m3 : m ≤ 3) (hk : k ≤ 5) (ha : a < m)
include m1 m3 hk ha
theorem pw_met {n : Nat} (h : PW c d true k n) : ∃ t, n = t + 1 ∧ PrtSG m (nx3 (rowD c m k a) ((outN c m k a : Nat) : Int) (rowD d m k a) ((outN d m k a : Nat) : Int)) (gd3 (rowD c m k a) ((outN c m k a : Nat) : Int) (rowD d m k a) ((outN d m k a : Nat) : Int)) (fst3 (rowD c m k a) (rowD d m k a)) t := by
  have hn : k < n := by
    false_or_by_contra
    exact pw_low (by omega) h
  obtain ⟨x, x0, x1, z⟩ := h
  obtain ⟨t, rfl⟩ : ∃ t, n = t + 1 := ⟨n - 1, by omega⟩
  obtain ⟨w1, w2, w3⟩ := wsA_ok ha x0 x1
  refine ⟨t, rfl, greater_met (xs := wsA m a x) (row51_ok (c := c) m1 m3 hk ha) (row51_ok (c := d) m1 m3 hk ha) w1 w3 ?_⟩
  rw [wr51o w1 ha w3, wr51o w1 ha w3, w2]
  rcases z with z | ⟨z, _⟩
  · exact z
  · cases z
theorem am_most {ps : List T3} {wy : List (Int × List Int)} (h : BfsG m (nx3 (rowD c m k a) ((outN c m k a : Nat) : Int) (rowD d m k a) ((outN d m k a : Nat) : Int)) (gd3 (rowD c m k a) ((outN c m k a : Nat) : Int) (rowD d m k a) ((outN d m k a : Nat) : Int)) (fst3 (rowD c m k a) (rowD d m k a)) ps wy ps.length) : lwW c d true = 0 := by
  refine pw_none (k := k) fun n hn => ?_
  obtain ⟨t, _, z⟩ := pw_met m1 m3 hk ha hn
  exact bfs_neverG h t z
theorem am_greater {ps : List T3} {wy : List (Int × List Int)} {cu : Nat} {q : T3} {bs : List Int} (h : BfsG m (nx3 (rowD c m k a) ((outN c m k a : Nat) : Int) (rowD d m k a) ((outN d m k a : Nat) : Int)) (gd3 (rowD c m k a) ((outN c m k a : Nat) : Int) (rowD d m k a) ((outN d m k a : Nat) : Int)) (fst3 (rowD c m k a) (rowD d m k a)) ps wy cu) (hq : ps[cu]? = some q) (hb : bs ∈ allB m)
    (hne : (nx3 (rowD c m k a) ((outN c m k a : Nat) : Int) (rowD d m k a) ((outN d m k a : Nat) : Int) q bs).2 = 2) :
    lwW c d true ≠ 0 ∧ (path wy cu ++ [bs]).length = k + lwW c d true ∧ (0 ≤ (wofL m (path wy cu ++ [bs])).getD a 0 ∧ (wofL m (path wy cu ++ [bs])).getD a 0 < 2 ^ (path wy cu ++ [bs]).length) ∧
      cfW d k (path wy cu ++ [bs]).length ((wofL m (path wy cu ++ [bs])).getD a 0) < cfW c k (path wy cu ++ [bs]).length ((wofL m (path wy cu ++ [bs])).getD a 0) := by
  have ok1 := row51_ok (c := c) m1 m3 hk ha
  have ok2 := row51_ok (c := d) m1 m3 hk ha
  obtain ⟨p1, p2⟩ := bfs_pathG h cu cu q (Nat.le_refl _) hq
  have hall : ∀ c ∈ path wy cu ++ [bs], c.length = m ∧ ∀ x ∈ c, Bit x := fun c hc => by
    rcases List.mem_append.mp hc with z | z
    · exact allB_ok m c (p1 c z)
    · rw [List.mem_singleton.mp z]
      exact allB_ok m bs hb
  have g := trip_greater ok1 ok2 hall (by rw [List.foldl_append, ← p2]; exact hne)
  have hx := wofL_range hall
  have hm := wofL_len m (path wy cu ++ [bs])
  rw [wr51o hm ha hx, wr51o hm ha hx] at g
  obtain ⟨x0, x1⟩ := at_in hm ha hx
  have fw := bfs_firstwG h hq hb (fun z => z hne)
  obtain ⟨l1, l2⟩ := pw_width (c := c) (d := d) (g := true) (k := k) (n := (path wy cu ++ [bs]).length) ⟨_, x0, x1, .inl g⟩ fun v hv pv => by
    obtain ⟨t, rfl, z⟩ := pw_met m1 m3 hk ha pv
    rcases fw with ⟨z0, _⟩ | ⟨u, eu, _, none⟩
    · omega
    · exact none t (by omega) z
  exact ⟨l1, l2, ⟨x0, x1⟩, g⟩
end ev51
def meetsB : Nm → Bool
  | .clear => true
  | .set => true
  | .twice => true
  | _ => false
theorem rt_cols {m : Nat} {S : Type} {nx : S → List Int → S} {s0 : S} : ∀ {t : Nat} {q : S}, RtG m nx s0 t q → ∃ cols : List (List Int), cols.length = t ∧ (∀ c ∈ cols, c ∈ allB m) ∧ q = cols.foldl nx s0
  | 0, q, h => ⟨[], rfl, (fun _ z => nomatch z), h⟩
  | t + 1, q, ⟨q0, bs, h, hb, e⟩ => by
    obtain ⟨cols, l, a, e0⟩ := rt_cols h
    refine ⟨cols ++ [bs], by rw [List.length_append, l]; rfl, fun c hc => ?_, by rw [List.foldl_append, ← e0]; exact e⟩
    rcases List.mem_append.mp hc with z | z
    · exact a c z
    · rw [List.mem_singleton.mp z]
      exact hb
theorem rtC_crry {ds : List Deed} {x : Int} : ∀ t, RtG 1 (nc ds) (fCc ds) t (crry ds [x] t)
  | 0 => rfl
  | t + 1 => ⟨crry ds [x] t, [x].map (bitA t), rtC_crry t, cols_in (m := 1) rfl t, rfl⟩
theorem cf_inj {c : Nm} {k n : Nat} {x y : Int} (hc : meetsB c = false) (x0 : 0 ≤ x) (x1 : x < 2 ^ n) (y0 : 0 ≤ y) (y1 : y < 2 ^ n) (e : cfW c k n x = cfW c k n y) : x = y := by
  by_cases h : n ≤ k
  · unfold cfW at e
    rw [if_pos h, if_pos h] at e
    exact e
  · have h : k < n := by omega
    obtain ⟨e1, a0, a1⟩ := cf_f (c := c) h x0 x1
    obtain ⟨e2, b0, b1⟩ := cf_f (c := c) h y0 y1
    have hp := pw_pos k
    have hx := Int.mul_ediv_add_emod x (2 ^ k)
    have hy := Int.mul_ediv_add_emod y (2 ^ k)
    have lx0 := Int.emod_nonneg x (Int.ne_of_gt hp)
    have lx1 := Int.emod_lt_of_pos x hp
    have ly0 := Int.emod_nonneg y (Int.ne_of_gt hp)
    have ly1 := Int.emod_lt_of_pos y hp
    rw [e1, e2] at e
    have el : x % 2 ^ k = y % 2 ^ k := by
      have := congrArg (· % (2 : Int) ^ k) e
      have t : ∀ a l : Int, 0 ≤ l → l < 2 ^ k → (a * 2 ^ k + l) % 2 ^ k = l := fun a l l0 l1 => by
        rw [Int.add_comm, Int.add_mul_emod_self_right, Int.emod_eq_of_lt l0 l1]
      have h2 : (fW c (n - k) (x / 2 ^ k) * 2 ^ k + x % 2 ^ k) % 2 ^ k = (fW c (n - k) (y / 2 ^ k) * 2 ^ k + y % 2 ^ k) % 2 ^ k := this
      rwa [t _ _ lx0 lx1, t _ _ ly0 ly1] at h2
    have ef : fW c (n - k) (x / 2 ^ k) = fW c (n - k) (y / 2 ^ k) := by
      have : fW c (n - k) (x / 2 ^ k) * 2 ^ k = fW c (n - k) (y / 2 ^ k) * 2 ^ k := by omega
      exact Int.eq_of_mul_eq_mul_right (Int.ne_of_gt hp) this
    have eh : x / 2 ^ k = y / 2 ^ k := by
      generalize x / 2 ^ k = u at *
      generalize y / 2 ^ k = v at *
      have e2 := pow_two (show 1 ≤ n - k by omega)
      cases c <;> first | (cases hc; done) | skip
      · have ef : u + (1 - 2 * (u % 2)) = v + (1 - 2 * (v % 2)) := ef
        omega
      · have ef : (u + 1) % 2 ^ (n - k) = (v + 1) % 2 ^ (n - k) := ef
        have w : ∀ z : Int, 0 ≤ z → z < 2 ^ (n - k) → (z + 1 = 2 ^ (n - k) ∧ (z + 1) % 2 ^ (n - k) = 0) ∨ (z + 1 < 2 ^ (n - k) ∧ (z + 1) % 2 ^ (n - k) = z + 1) := fun z z0 z1 => by
          by_cases q : z + 1 = 2 ^ (n - k)
          · refine .inl ⟨q, ?_⟩
            rw [q, Int.emod_self]
          · exact .inr ⟨by omega, Int.emod_eq_of_lt (by omega) (by omega)⟩
        rcases w u a0 a1 with ⟨p1, p2⟩ | ⟨p1, p2⟩ <;> rcases w v b0 b1 with ⟨q1, q2⟩ | ⟨q1, q2⟩ <;> omega
      · exact ef
    rw [← hx, ← hy, eh, el]
section tu51
variable {c : Nm} {k : Nat} (hk : k ≤ 5)
include hk
theorem wrth51 {n : Nat} {x : Int} (x0 : 0 ≤ x) (x1 : x < 2 ^ n) : wrth n (rowD c 1 k 0) ((outN c 1 k 0 : Nat) : Int) x = cfW c k n x := by
  have := wr51o (c := c) (m := 1) (k := k) (a := 0) (n := n) (ws := [x]) rfl (by decide) (fun y hy => by rw [List.mem_singleton.mp hy]; exact ⟨x0, x1⟩)
  exact this
/-- where two words meet, by what is met -/
theorem meet_cf {t : Nat} (h : PrtSG 1 (nc (rowD c 1 k 0)) (gdC (rowD c 1 k 0) ((outN c 1 k 0 : Nat) : Int)) (fCc (rowD c 1 k 0)) t) : ∃ x : Int, 0 ≤ x ∧ x < 2 ^ t ∧ cfW c k (t + 1) x = cfW c k (t + 1) (x + 2 ^ t) := by
  obtain ⟨q, bs, hq, hb, hn⟩ := h
  have he := Classical.not_not.mp hn
  obtain ⟨cols, rfl, ha, rfl⟩ := rt_cols hq
  rw [runC_fold] at he
  have hall : ∀ c ∈ cols, c.length = 1 ∧ ∀ x ∈ c, Bit x := fun c hc => allB_ok 1 c (ha c hc)
  have ok := row51_ok (c := c) (m := 1) (a := 0) (Nat.le_refl 1) (by decide) hk (by decide)
  have mw := meet_worth ok hall he
  rw [wof_one, wof_one, Int.zero_mul, Int.one_mul, Int.add_zero] at mw
  obtain ⟨x0, x1⟩ := colW_range (j := 0) (cs := cols) fun c hc => by
    obtain ⟨l, b⟩ := hall c hc
    match c, l with
    | [x], _ => exact b x List.mem_cons_self
  have hp := pw_pos cols.length
  have e2 : (2 : Int) ^ (cols.length + 1) = 2 ^ cols.length * 2 := Int.pow_succ _ _
  refine ⟨colW cols 0, x0, x1, ?_⟩
  rw [← wrth51 hk x0 (by omega), ← wrth51 hk (by omega) (by omega)]
  exact mw
theorem tu_turned (h : meetsB c = false) (t : Nat) : ¬ PrtSG 1 (nc (rowD c 1 k 0)) (gdC (rowD c 1 k 0) ((outN c 1 k 0 : Nat) : Int)) (fCc (rowD c 1 k 0)) t := fun z => by
  obtain ⟨x, x0, x1, e⟩ := meet_cf hk z
  have hp := pw_pos t
  have e2 : (2 : Int) ^ (t + 1) = 2 ^ t * 2 := Int.pow_succ _ _
  have := cf_inj h x0 (by omega) (by omega) (by omega) e
  omega
theorem tu_low {t : Nat} (ht : t < k) : ¬ PrtSG 1 (nc (rowD c 1 k 0)) (gdC (rowD c 1 k 0) ((outN c 1 k 0 : Nat) : Int)) (fCc (rowD c 1 k 0)) t := fun z => by
  obtain ⟨x, x0, x1, e⟩ := meet_cf hk z
  have hp := pw_pos t
  unfold cfW at e
  rw [if_pos (by omega), if_pos (by omega)] at e
  omega
theorem tu_meet (h : meetsB c = true) : PrtSG 1 (nc (rowD c 1 k 0)) (gdC (rowD c 1 k 0) ((outN c 1 k 0 : Nat) : Int)) (fCc (rowD c 1 k 0)) k := by
  have ok := row51_ok (c := c) (m := 1) (a := 0) (Nat.le_refl 1) (by decide) hk (by decide)
  have hp := pw_pos k
  have e2 : (2 : Int) ^ (k + 1) = 2 ^ k * 2 := Int.pow_succ _ _
  refine ⟨crry (rowD c 1 k 0) [0] k, [0], rtC_crry k, (by decide : ([0] : List Int) ∈ allB 1), fun g => g ?_⟩
  have ecr : crry (rowD c 1 k 0) [0] k = crry (rowD c 1 k 0) [2 ^ k] k := crry_congr fun i hi => by
    have := (put_bit (v := 0) (b := 1) (t := k) (Int.le_refl _) hp bit1).2 i hi
    rw [Int.one_mul, Int.zero_add] at this
    exact this.symm
  have b0 : bitA k 0 = 0 := by unfold bitA; rw [Int.zero_ediv]; rfl
  have b1 : bitA k (2 ^ k) = 1 := by
    have := (put_bit (v := 0) (b := 1) (t := k) (Int.le_refl _) hp bit1).1
    rwa [Int.one_mul, Int.zero_add] at this
  have w0 := ob_bit (t := k) (n := k + 1) (xs := [0]) ok rfl (fun y hy => by rw [List.mem_singleton.mp hy]; omega) (Nat.lt_succ_self k)
  have w1 := ob_bit (t := k) (n := k + 1) (xs := [2 ^ k]) ok rfl (fun y hy => by rw [List.mem_singleton.mp hy]; omega) (Nat.lt_succ_self k)
  have v0 : (vals (2 ^ (k + 1)) (rowD c 1 k 0) [0]).getD ((outN c 1 k 0 : Nat) : Int).toNat 0 = cfW c k (k + 1) 0 := wrth51 hk (Int.le_refl _) (by omega)
  have v1 : (vals (2 ^ (k + 1)) (rowD c 1 k 0) [2 ^ k]).getD ((outN c 1 k 0 : Nat) : Int).toNat 0 = cfW c k (k + 1) (2 ^ k) := wrth51 hk (by omega) (by omega)
  have w0' : ob (rowD c 1 k 0) ((outN c 1 k 0 : Nat) : Int) (crry (rowD c 1 k 0) [0] k) [bitA k 0] = bitA k (cfW c k (k + 1) 0) := by rw [← v0]; exact w0
  have w1' : ob (rowD c 1 k 0) ((outN c 1 k 0 : Nat) : Int) (crry (rowD c 1 k 0) [2 ^ k] k) [bitA k (2 ^ k)] = bitA k (cfW c k (k + 1) (2 ^ k)) := by rw [← v1]; exact w1
  rw [b0] at w0'
  rw [b1, ← ecr] at w1'
  rw [w0', w1']
  congr 1
  obtain ⟨c0, _, _⟩ := cf_f (c := c) (k := k) (n := k + 1) (x := 0) (Nat.lt_succ_self k) (Int.le_refl _) (by omega)
  obtain ⟨c1, _, _⟩ := cf_f (c := c) (k := k) (n := k + 1) (x := 2 ^ k) (Nat.lt_succ_self k) (by omega) (by omega)
  rw [c0, c1, Int.zero_ediv, Int.ediv_self (Int.ne_of_gt hp), Int.zero_emod, Int.emod_self, show k + 1 - k = 1 by omega]
  cases c <;> first | (cases h; done) | rfl
end tu51
def candL (k n : Nat) (y : Int) : List Int := [y, y - 2 ^ k, (y - 2 ^ k) % 2 ^ n, (y + 2 ^ k) % 2 ^ n]
def isBk (c : Nm) (k n : Nat) (y x : Int) : Bool := decide (0 ≤ x ∧ x < 2 ^ n) && decide (cfW c k n x = y)
def bkL (c : Nm) (k n : Nat) (y : Int) : List Int := (candL k n y).filter (isBk c k n y)
theorem bk_mem {c : Nm} {k n : Nat} {y x : Int} : x ∈ bkL c k n y ↔ x ∈ candL k n y ∧ (0 ≤ x ∧ x < 2 ^ n) ∧ cfW c k n x = y := by
  unfold bkL isBk
  rw [List.mem_filter, Bool.and_eq_true, decide_eq_true_iff, decide_eq_true_iff]
theorem sub_mod {a b N : Int} (a0 : 0 ≤ a) (a1 : a < N) : ((a + b) % N - b) % N = a := by
  rw [Int.sub_emod, Int.emod_emod_of_dvd _ (Int.dvd_refl N), ← Int.sub_emod, Int.add_sub_cancel, Int.emod_eq_of_lt a0 a1]
theorem bk_cand {c : Nm} {k n : Nat} {y x : Int} (x0 : 0 ≤ x) (x1 : x < 2 ^ n) (e : cfW c k n x = y) : ∃ u, u ∈ bkL c k n y ∧ u ≤ x := by
  have self : x ∈ candL k n y → ∃ u, u ∈ bkL c k n y ∧ u ≤ x := fun h => ⟨x, bk_mem.mpr ⟨h, ⟨x0, x1⟩, e⟩, Int.le_refl _⟩
  have at0 : x = y → x ∈ candL k n y := fun h => by rw [h]; exact List.mem_cons_self
  have at1 : x = y - 2 ^ k → x ∈ candL k n y := fun h => by rw [h]; exact List.mem_cons_of_mem _ List.mem_cons_self
  have at2 : x = (y - 2 ^ k) % 2 ^ n → x ∈ candL k n y := fun h => by rw [h]; exact List.mem_cons_of_mem _ (List.mem_cons_of_mem _ List.mem_cons_self)
  have at3 : x = (y + 2 ^ k) % 2 ^ n → x ∈ candL k n y := fun h => by rw [h]; exact List.mem_cons_of_mem _ (List.mem_cons_of_mem _ (List.mem_cons_of_mem _ List.mem_cons_self))
  by_cases h : n ≤ k
  · have e' := e
    unfold cfW at e'
    rw [if_pos h] at e'
    exact self (at0 e')
  · have hp := pw_pos k
    have e' := e
    unfold cfW at e'
    rw [if_neg h] at e'
    have hb : x / 2 ^ k % 2 = 0 ∨ x / 2 ^ k % 2 = 1 := by omega
    cases c
    · have e' : x - x / 2 ^ k % 2 * 2 ^ k = y := e'
      rcases hb with z | z <;> rw [z] at e'
      · exact self (at0 (by omega))
      · -- the word with the bit gone is brought to itself
        have ey : y = x - 2 ^ k := by omega
        have hx := Int.mul_ediv_add_emod x (2 ^ k)
        have hge : 1 ≤ x / 2 ^ k := by
          have := Int.ediv_nonneg x0 (Int.le_of_lt hp)
          omega
        have l0 := Int.emod_nonneg x (Int.ne_of_gt hp)
        have m1 : 2 ^ k * 1 ≤ 2 ^ k * (x / 2 ^ k) := Int.mul_le_mul_of_nonneg_left hge (Int.le_of_lt hp)
        have y0 : 0 ≤ y := by omega
        have y1 : y < 2 ^ n := by omega
        refine ⟨y, bk_mem.mpr ⟨List.mem_cons_self, ⟨y0, y1⟩, ?_⟩, by omega⟩
        unfold cfW
        rw [if_neg h]
        have ed : y / 2 ^ k = x / 2 ^ k - 1 := by
          have : y = x + (-1) * 2 ^ k := by omega
          rw [this, Int.add_mul_ediv_right _ _ (Int.ne_of_gt hp)]
          omega
        show y - y / 2 ^ k % 2 * 2 ^ k = y
        rw [ed, show (x / 2 ^ k - 1) % 2 = 0 by omega]
        omega
    · have e' : x + (1 - x / 2 ^ k % 2) * 2 ^ k = y := e'
      rcases hb with z | z <;> rw [z] at e'
      · exact self (at1 (by omega))
      · exact self (at0 (by omega))
    · have e' : x + (1 - 2 * (x / 2 ^ k % 2)) * 2 ^ k = y := e'
      rcases hb with z | z <;> rw [z] at e'
      · exact self (at1 (by omega))
      · refine self (at3 ?_)
        rw [show y + 2 ^ k = x by omega, Int.emod_eq_of_lt x0 x1]
    · have e' : (x + 1 * 2 ^ k) % 2 ^ n = y := e'
      refine self (at2 ?_)
      rw [← e', Int.one_mul, sub_mod x0 x1]
    · have e' : (x + x / 2 ^ k % 2 * 2 ^ k) % 2 ^ n = y := e'
      rcases hb with z | z <;> rw [z] at e'
      · refine self (at0 ?_)
        rw [← e', Int.zero_mul, Int.add_zero, Int.emod_eq_of_lt x0 x1]
      · refine self (at2 ?_)
        rw [← e', Int.one_mul, sub_mod x0 x1]
    · exact self (at0 e')
theorem bk_gb {c : Nm} {k n : Nat} {y : Int} (hk : k ≤ 5) : (bkL c k n y = [] → GB n (rowD c 1 k 0) ((outN c 1 k 0 : Nat) : Int) y .non) ∧ (bkL c k n y ≠ [] → ∀ v, v ∈ bkL c k n y ++ [2 ^ n] → (∀ x ∈ bkL c k n y ++ [2 ^ n], v ≤ x) → GB n (rowD c 1 k 0) ((outN c 1 k 0 : Nat) : Int) y (.int v)) := by
  refine ⟨fun h => .inl ⟨rfl, fun x x0 x1 e => ?_⟩, fun h v hv mn => ?_⟩
  · rw [wrth51 hk x0 x1] at e
    obtain ⟨u, hu, _⟩ := bk_cand x0 x1 e
    rw [h] at hu
    cases hu
  · obtain ⟨u, hu⟩ := List.exists_mem_of_ne_nil _ h
    have vu := mn u (List.mem_append_left _ hu)
    obtain ⟨_, ⟨u0, u1⟩, _⟩ := bk_mem.mp hu
    have hv' : v ∈ bkL c k n y := by
      rcases List.mem_append.mp hv with z | z
      · exact z
      · rw [List.mem_singleton.mp z] at vu
        omega
    obtain ⟨_, ⟨v0, v1⟩, ve⟩ := bk_mem.mp hv'
    refine .inr ⟨v, rfl, v0, v1, by rw [wrth51 hk v0 v1]; exact ve, fun x x0 x1 e => ?_⟩
    rw [wrth51 hk x0 x1] at e
    obtain ⟨z, hz, zx⟩ := bk_cand x0 x1 e
    have := mn z (List.mem_append_left _ hz)
    omega
def runO (m : Nat) (ds : List Deed) (o b : Int) : Nat → List Int → List Int
  | 0, _ => []
  | t + 1, c => ob ds o c (List.replicate m b) :: runO m ds o b t (nc ds c (List.replicate m b))
/-- what comes of noughts, and of ones -/
def sigC (m : Nat) (ds : List Deed) (o : Int) (T : Nat) (c : List Int) : List Int × List Int := (runO m ds o 0 T c, runO m ds o 1 T c)
structure ClsF (m : Nat) (ds : List Deed) (o : Int) (T : Nat) (L R : List (List Int)) : Prop where
  first : ds.map fcD ∈ L
  next : ∀ c ∈ L, ∀ bs ∈ allB m, nc ds c bs ∈ L
  come : ∀ c ∈ L, ∃ cols : List (List Int), (∀ b ∈ cols, b ∈ allB m) ∧ c = runC ds (ds.map fcD) cols
  alike : ∀ c ∈ L, ∀ d ∈ L, sigC m ds o T c = sigC m ds o T d → ∀ bs ∈ allB m, ob ds o c bs = ob ds o d bs ∧ sigC m ds o T (nc ds c bs) = sigC m ds o T (nc ds d bs)
  sub : ∀ r ∈ R, r ∈ L
  nd : (R.map (sigC m ds o T)).Nodup
  all : ∀ c ∈ L, sigC m ds o T c ∈ R.map (sigC m ds o T)
section cls51
variable {m : Nat} {ds : List Deed} {o : Int} {T : Nat} {L R : List (List Int)} {cs : List (List Int)} {mac : List MRow} {ns : List Nat} {lm : List MRow}
theorem rep_in {b : Int} (hb : Bit b) : List.replicate m b ∈ allB m := allB_all m _ (by rw [List.length_replicate]) fun x hx => by rw [List.eq_of_mem_replicate hx]; exact hb
theorem Mch.same (M : Mch m ds o cs mac ns lm) {c c' bs : List Int} {k : Nat} (h : KdS cs ns c k) (h' : KdS cs ns c' k) (hb : bs ∈ allB m) : ob ds o c bs = ob ds o c' bs ∧ ∃ k', KdS cs ns (nc ds c bs) k' ∧ KdS cs ns (nc ds c' bs) k' := by
  obtain ⟨t, ht⟩ := List.mem_iff_getElem?.mp hb
  obtain ⟨k1, g1, g2⟩ := M.at h ht
  obtain ⟨k2, g1', g2'⟩ := M.at h' ht
  rw [g1] at g1'
  obtain ⟨e, rfl⟩ := Prod.mk.inj (Option.some.inj g1')
  exact ⟨e, k1, g2, g2'⟩
theorem Mch.runO (M : Mch m ds o cs mac ns lm) {b : Int} (hb : Bit b) : ∀ (T : Nat) {c c' : List Int} {k : Nat}, KdS cs ns c k → KdS cs ns c' k → KK.runO m ds o b T c = KK.runO m ds o b T c'
  | 0, _, _, _, _, _ => rfl
  | T + 1, c, c', k, h, h' => by
    obtain ⟨e, k', g, g'⟩ := M.same h h' (rep_in hb)
    show ob ds o c _ :: _ = ob ds o c' _ :: _
    rw [e, M.runO hb T g g']
theorem Mch.sig (M : Mch m ds o cs mac ns lm) {c c' : List Int} {k : Nat} (h : KdS cs ns c k) (h' : KdS cs ns c' k) : sigC m ds o T c = sigC m ds o T c' := by
  unfold sigC
  rw [M.runO bit0 T h h', M.runO bit1 T h h']
theorem ClsF.sub_cs (C : ClsF m ds o T L R) (M : Mch m ds o cs mac ns lm) {c : List Int} (h : c ∈ cs) : c ∈ L := by
  obtain ⟨c1, t, r⟩ := M.beside (ds1 := ds) h
  have key : ∀ (t : Nat) (q : PC), RtS m ds ds t q → q.2 ∈ L := by
    intro t
    induction t with
    | zero =>
      intro q hq
      have hq' : q = _ := hq
      rw [hq']
      exact C.first
    | succ t ih =>
      rintro q ⟨q0, bs, h0, hb, rfl⟩
      exact C.next _ (ih q0 h0) bs hb
  exact key t _ r
theorem ClsF.num (C : ClsF m ds o T L R) (M : Mch m ds o cs mac ns lm) {c : List Int} (h : c ∈ L) : ∃ k, KdS cs ns c k := by
  obtain ⟨cols, hc, rfl⟩ := C.come c h
  clear h
  suffices hh : ∀ (n : Nat) (cols : List (List Int)), cols.length = n → (∀ b ∈ cols, b ∈ allB m) → ∃ k, KdS cs ns (runC ds (ds.map fcD) cols) k from hh cols.length cols rfl hc
  intro n
  induction n with
  | zero =>
    intro cols hl _
    rw [List.length_eq_zero_iff.mp hl]
    exact ⟨0, M.first⟩
  | succ n ih =>
    intro cols hl hc
    have hne : cols ≠ [] := fun z => by rw [z] at hl; cases hl
    have e := List.dropLast_concat_getLast hne
    obtain ⟨k, hk⟩ := ih cols.dropLast (by rw [List.length_dropLast, hl]; rfl) (fun c hc' => hc c (List.dropLast_subset _ hc'))
    obtain ⟨_, k', g, _⟩ := M.same hk hk (hc _ (List.getLast_mem hne))
    rw [← e, runC_snoc]
    exact ⟨k', g⟩
theorem ClsF.crs (C : ClsF m ds o T L R) (M : Mch m ds o cs mac ns lm) {c c' : List Int} {k k' : Nat} (h : KdS cs ns c k) (h' : KdS cs ns c' k') (e : sigC m ds o T c = sigC m ds o T c') : k = k' := by
  obtain ⟨i, b1, b2⟩ := h
  obtain ⟨i', b1', b2'⟩ := h'
  have hl := M.hl
  have ee := M.kk.crs (fun x y => ∃ c c', sigC m ds o T c = sigC m ds o T c' ∧ cs[x]? = some c ∧ cs[y]? = some c') (fun x y hxy => ?_) i i' ⟨c, c', e, b1, b1'⟩
  · rw [b2, b2'] at ee
    exact Option.some.inj ee
  · obtain ⟨c, c', e, c1, c1'⟩ := hxy
    have xl := (List.getElem?_eq_some_iff.mp c1).1
    have yl := (List.getElem?_eq_some_iff.mp c1').1
    have er : mac[x]? = some (mac[x]'(by omega)) := List.getElem?_eq_getElem (by omega)
    have er' : mac[y]? = some (mac[y]'(by omega)) := List.getElem?_eq_getElem (by omega)
    obtain ⟨d, w1, w2⟩ := M.wm.each x _ er
    rw [c1] at w1
    obtain rfl := Option.some.inj w1
    obtain ⟨d', w1', w2'⟩ := M.wm.each y _ er'
    rw [c1'] at w1'
    obtain rfl := Option.some.inj w1'
    refine ⟨_, _, er, er', paired_of (by rw [awLen w2, awLen w2']; unfold stp; rw [List.length_map, List.length_map]) fun t e1 e1' he he' => ?_⟩
    obtain ⟨s, s1, s2, u, s3, s4⟩ := awGet w2 he
    obtain ⟨s', s1', s2', u', s3', s4'⟩ := awGet w2' he'
    unfold stp at s1 s1'
    rw [List.getElem?_map] at s1 s1'
    obtain ⟨bs, hb, rfl⟩ := Option.map_eq_some_iff.mp s1
    rw [hb] at s1'
    obtain rfl := Option.some.inj s1'
    have bm := List.mem_of_getElem? hb
    obtain ⟨q1, q2⟩ := C.alike c (C.sub_cs M (List.mem_of_getElem? c1)) c' (C.sub_cs M (List.mem_of_getElem? c1')) e bs bm
    refine ⟨?_, nc ds c bs, nc ds c' bs, q2, ?_, ?_⟩
    · rw [s2, s2']
      exact q1
    · rw [s3, Int.toNat_natCast]
      exact s4
    · rw [s3', Int.toNat_natCast]
      exact s4'
theorem ClsF.count (C : ClsF m ds o T L R) (h : LmOk m ds o lm) : lm.length = R.length := by
  obtain ⟨cs, mac, ns, M⟩ := lm_mch h
  have pick : ∀ k, ∃ c, k < lm.length → c ∈ cs ∧ KdS cs ns c k := fun k => by
    by_cases hk : k < lm.length
    · obtain ⟨c, a, b⟩ := M.surj hk
      exact ⟨c, fun _ => ⟨a, b⟩⟩
    · exact ⟨[], fun z => absurd z hk⟩
  obtain ⟨f, hf⟩ := Classical.axiomOfChoice pick
  have l1 : ((List.range lm.length).map fun k => sigC m ds o T (f k)).Nodup := by
    rw [List.nodup_iff_pairwise_ne, List.pairwise_map]
    refine List.Pairwise.imp_of_mem (R := fun a b => a < b) (fun {a b} ha hb ab e => ?_) List.pairwise_lt_range
    have := C.crs M (hf a (List.mem_range.mp ha)).2 (hf b (List.mem_range.mp hb)).2 e
    omega
  have p1 := pigeon _ (R.map (sigC m ds o T)) l1 fun x hx => by
    obtain ⟨k, hk, rfl⟩ := List.mem_map.mp hx
    exact C.all _ (C.sub_cs M (hf k (List.mem_range.mp hk)).1)
  have p2 := pigeon (R.map (sigC m ds o T)) _ C.nd fun x hx => by
    obtain ⟨r, hr, rfl⟩ := List.mem_map.mp hx
    obtain ⟨k, hk⟩ := C.num M (C.sub r hr)
    have kl := M.lt hk
    exact List.mem_map.mpr ⟨k, List.mem_range.mpr kl, M.sig (hf k kl).2 hk⟩
  rw [List.length_map, List.length_map, List.length_range] at p1 p2
  omega
end cls51
abbrev FD := Nat × Nat × Nat
def toI : Bool → Int
  | false => 0
  | true => 1
theorem toI_inj {a b : Bool} (h : toI a = toI b) : a = b := by cases a <;> cases b <;> first | rfl | cases h
def decD : FD → Deed
  | (0, _, _) => ("one", [])
  | (1, a, _) => ("twice", [(a : Int)])
  | (2, a, b) => ("and", [(a : Int), (b : Int)])
  | (3, a, b) => ("or", [(a : Int), (b : Int)])
  | (4, a, b) => ("xor", [(a : Int), (b : Int)])
  | (5, a, b) => ("add", [(a : Int), (b : Int)])
  | (_ + 6, a, b) => ("sub", [(a : Int), (b : Int)])
def dbF : Nat → Bool → Bool → Bool → Bool
  | 0, _, _, c => c
  | 1, _, _, c => c
  | 2, a, b, _ => a && b
  | 3, a, b, _ => a || b
  | 4, a, b, _ => xor a b
  | _ + 5, a, b, c => xor (xor a b) c
def dcF : Nat → Bool → Bool → Bool → Bool
  | 1, a, _, _ => a
  | 5, a, b, c => (a && b) || (a && c) || (b && c)
  | 6, a, b, c => (!a && b) || (!a && c) || (b && c)
  | _ + 7, a, b, c => (!a && b) || (!a && c) || (b && c)
  | _, _, _, _ => false
def argF (told : List Bool) (i : Nat) : Bool := told.getD i false
def btF (d : FD) (c : Bool) (told : List Bool) : Bool := dbF d.1 (argF told d.2.1) (argF told d.2.2) c
def btsF : List FD → List Bool → List Bool → List Bool
  | d :: ds, c :: cs, told => btsF ds cs (told ++ [btF d c told])
  | _, _, told => told
def nxF : List FD → List Bool → List Bool → List Bool
  | d :: ds, c :: cs, told => dcF d.1 (argF told d.2.1) (argF told d.2.2) c :: nxF ds cs told
  | _, _, _ => []
theorem arg_to (told : List Bool) (i : Nat) : (told.map toI).getD i 0 = toI (argF told i) := by
  unfold argF
  rw [List.getD_eq_getElem?_getD, List.getD_eq_getElem?_getD, List.getElem?_map]
  cases told[i]? <;> rfl
theorem db_to (d : FD) (c : Bool) (told : List Bool) : dbitAt (decD d) (toI c) (told.map toI) = toI (btF d c told) := by
  obtain ⟨t, a, b⟩ := d
  have ea := arg_to told a
  have eb := arg_to told b
  have two : ∀ x : Str, argAt ((x, [(a : Int), (b : Int)]) : Deed) (told.map toI) 0 = toI (argF told a) ∧ argAt ((x, [(a : Int), (b : Int)]) : Deed) (told.map toI) 1 = toI (argF told b) := fun x => ⟨argAt_two.1.trans ea, argAt_two.2.trans eb⟩
  unfold dbitAt btF
  match t with
  | 0 => rfl
  | 1 => rfl
  | 2 =>
    show dbit "and" (argAt (("and", [(a : Int), (b : Int)]) : Deed) (told.map toI) 0) (argAt (("and", [(a : Int), (b : Int)]) : Deed) (told.map toI) 1) _ = _
    rw [(two "and").1, (two "and").2]
    show dbit "and" (toI (argF told a)) (toI (argF told b)) (toI c) = toI (argF told a && argF told b)
    generalize argF told a = u
    generalize argF told b = v
    cases u <;> cases v <;> cases c <;> rfl
  | 3 =>
    show dbit "or" (argAt (("or", [(a : Int), (b : Int)]) : Deed) (told.map toI) 0) (argAt (("or", [(a : Int), (b : Int)]) : Deed) (told.map toI) 1) _ = _
    rw [(two "or").1, (two "or").2]
    show dbit "or" (toI (argF told a)) (toI (argF told b)) (toI c) = toI (argF told a || argF told b)
    generalize argF told a = u
    generalize argF told b = v
    cases u <;> cases v <;> cases c <;> rfl
  | 4 =>
    show dbit "xor" (argAt (("xor", [(a : Int), (b : Int)]) : Deed) (told.map toI) 0) (argAt (("xor", [(a : Int), (b : Int)]) : Deed) (told.map toI) 1) _ = _
    rw [(two "xor").1, (two "xor").2]
    show dbit "xor" (toI (argF told a)) (toI (argF told b)) (toI c) = toI (xor (argF told a) (argF told b))
    generalize argF told a = u
    generalize argF told b = v
    cases u <;> cases v <;> cases c <;> rfl
  | 5 =>
    show dbit "add" (argAt (("add", [(a : Int), (b : Int)]) : Deed) (told.map toI) 0) (argAt (("add", [(a : Int), (b : Int)]) : Deed) (told.map toI) 1) _ = _
    rw [(two "add").1, (two "add").2]
    show dbit "add" (toI (argF told a)) (toI (argF told b)) (toI c) = toI (xor (xor (argF told a) (argF told b)) c)
    generalize argF told a = u
    generalize argF told b = v
    cases u <;> cases v <;> cases c <;> rfl
  | t + 6 =>
    show dbit "sub" (argAt (("sub", [(a : Int), (b : Int)]) : Deed) (told.map toI) 0) (argAt (("sub", [(a : Int), (b : Int)]) : Deed) (told.map toI) 1) _ = _
    rw [(two "sub").1, (two "sub").2]
    show dbit "sub" (toI (argF told a)) (toI (argF told b)) (toI c) = toI (xor (xor (argF told a) (argF told b)) c)
    generalize argF told a = u
    generalize argF told b = v
    cases u <;> cases v <;> cases c <;> rfl
theorem dc_to (d : FD) (c : Bool) (told : List Bool) : dcarAt (decD d) (toI c) (told.map toI) = toI (dcF d.1 (argF told d.2.1) (argF told d.2.2) c) := by
  obtain ⟨t, a, b⟩ := d
  have ea := arg_to told a
  have eb := arg_to told b
  have two : ∀ x : Str, argAt ((x, [(a : Int), (b : Int)]) : Deed) (told.map toI) 0 = toI (argF told a) ∧ argAt ((x, [(a : Int), (b : Int)]) : Deed) (told.map toI) 1 = toI (argF told b) := fun x => ⟨argAt_two.1.trans ea, argAt_two.2.trans eb⟩
  unfold dcarAt
  match t with
  | 0 => rfl
  | 1 =>
    show dcar "twice" ((told.map toI).getD ((a : Int)).toNat 0) _ _ = toI (argF told a)
    rw [Int.toNat_natCast, ea]
    rfl
  | 2 => rfl
  | 3 => rfl
  | 4 => rfl
  | 5 =>
    show dcar "add" (argAt (("add", [(a : Int), (b : Int)]) : Deed) (told.map toI) 0) (argAt (("add", [(a : Int), (b : Int)]) : Deed) (told.map toI) 1) _ = _
    rw [(two "add").1, (two "add").2]
    show dcar "add" (toI (argF told a)) (toI (argF told b)) (toI c) = toI (dcF 5 (argF told a) (argF told b) c)
    generalize argF told a = u
    generalize argF told b = v
    cases u <;> cases v <;> cases c <;> rfl
  | 6 =>
    show dcar "sub" (argAt (("sub", [(a : Int), (b : Int)]) : Deed) (told.map toI) 0) (argAt (("sub", [(a : Int), (b : Int)]) : Deed) (told.map toI) 1) _ = _
    rw [(two "sub").1, (two "sub").2]
    show dcar "sub" (toI (argF told a)) (toI (argF told b)) (toI c) = toI (dcF 6 (argF told a) (argF told b) c)
    generalize argF told a = u
    generalize argF told b = v
    cases u <;> cases v <;> cases c <;> rfl
  | t + 7 =>
    show dcar "sub" (argAt (("sub", [(a : Int), (b : Int)]) : Deed) (told.map toI) 0) (argAt (("sub", [(a : Int), (b : Int)]) : Deed) (told.map toI) 1) _ = _
    rw [(two "sub").1, (two "sub").2]
    show dcar "sub" (toI (argF told a)) (toI (argF told b)) (toI c) = toI (dcF (t + 7) (argF told a) (argF told b) c)
    generalize argF told a = u
    generalize argF told b = v
    cases u <;> cases v <;> cases c <;> rfl
theorem bts_to : ∀ (fd : List FD) (cs told : List Bool), bts (fd.map decD) (cs.map toI) (told.map toI) = (btsF fd cs told).map toI
  | [], _, _ => by
    unfold btsF
    show bts [] _ _ = _
    unfold bts
    rfl
  | d :: fd, [], told => rfl
  | d :: fd, c :: cs, told => by
    show bts (fd.map decD) (cs.map toI) (told.map toI ++ [dbitAt (decD d) (toI c) (told.map toI)]) = (btsF fd cs (told ++ [btF d c told])).map toI
    rw [db_to, ← bts_to fd cs, List.map_append]
    rfl
theorem nx_to : ∀ (fd : List FD) (cs told : List Bool), nxt (fd.map decD) (cs.map toI) (told.map toI) = (nxF fd cs told).map toI
  | [], _, _ => rfl
  | d :: fd, [], told => rfl
  | d :: fd, c :: cs, told => by
    show dcarAt (decD d) (toI c) (told.map toI) :: nxt (fd.map decD) (cs.map toI) (told.map toI) = toI (dcF d.1 (argF told d.2.1) (argF told d.2.2) c) :: (nxF fd cs told).map toI
    rw [dc_to, nx_to fd cs]
def ncF (fd : List FD) (c bs : List Bool) : List Bool := nxF fd c (btsF fd c bs)
def obF (fd : List FD) (o : Nat) (c bs : List Bool) : Bool := (btsF fd c bs).getD o false
theorem nc_to (fd : List FD) (c bs : List Bool) : nc (fd.map decD) (c.map toI) (bs.map toI) = (ncF fd c bs).map toI := by
  unfold nc ncF
  rw [bts_to, nx_to]
theorem ob_to (fd : List FD) (o : Nat) (c bs : List Bool) : ob (fd.map decD) (o : Int) (c.map toI) (bs.map toI) = toI (obF fd o c bs) := by
  unfold ob obF
  rw [bts_to, Int.toNat_natCast]
  exact arg_to _ o
def allF : Nat → List (List Bool)
  | 0 => [[]]
  | m + 1 => (allF m).flatMap fun b => [b ++ [false], b ++ [true]]
theorem all_to : ∀ m : Nat, m ≤ 2 → allB m = (allF m).map fun b => b.map toI := fun m hm => by
  rcases (show m = 0 ∨ m = 1 ∨ m = 2 by omega) with rfl | rfl | rfl <;> decide
def fstF (fd : List FD) : List Bool := fd.map fun d => d.1 == 0
theorem fst_to (fd : List FD) : (fd.map decD).map fcD = (fstF fd).map toI := by
  unfold fstF
  rw [List.map_map, List.map_map]
  refine List.map_congr_left fun d _ => ?_
  obtain ⟨t, a, b⟩ := d
  have no : ∀ x : Str, x ∉ (["neg", "one"] : List Str) → (if x ∈ (["neg", "one"] : List Str) then (1 : Int) else 0) = 0 := fun x h => if_neg h
  match t with
  | 0 => exact (if_pos (by decide +kernel : ("one" : Str) ∈ (["neg", "one"] : List Str)) : (if ("one" : Str) ∈ (["neg", "one"] : List Str) then (1 : Int) else 0) = 1)
  | 1 => exact no "twice" (by decide +kernel)
  | 2 => exact no "and" (by decide +kernel)
  | 3 => exact no "or" (by decide +kernel)
  | 4 => exact no "xor" (by decide +kernel)
  | 5 => exact no "add" (by decide +kernel)
  | t + 6 => exact no "sub" (by decide +kernel)
def ruF (m : Nat) (fd : List FD) (o : Nat) (b : Bool) : Nat → List Bool → List Bool
  | 0, _ => []
  | t + 1, c => obF fd o c (List.replicate m b) :: ruF m fd o b t (ncF fd c (List.replicate m b))
def sigF (m : Nat) (fd : List FD) (o T : Nat) (c : List Bool) : List Bool × List Bool := (ruF m fd o false T c, ruF m fd o true T c)
theorem ru_to (m : Nat) (fd : List FD) (o : Nat) (b : Bool) : ∀ (T : Nat) (c : List Bool), runO m (fd.map decD) (o : Int) (toI b) T (c.map toI) = (ruF m fd o b T c).map toI
  | 0, _ => rfl
  | T + 1, c => by
    have e : List.replicate m (toI b) = (List.replicate m b).map toI := by rw [List.map_replicate]
    show ob (fd.map decD) (o : Int) (c.map toI) (List.replicate m (toI b)) :: runO m (fd.map decD) (o : Int) (toI b) T (nc (fd.map decD) (c.map toI) (List.replicate m (toI b))) = toI (obF fd o c (List.replicate m b)) :: (ruF m fd o b T (ncF fd c (List.replicate m b))).map toI
    rw [e, ob_to, nc_to, ru_to]
theorem map_inj : ∀ {a b : List Bool}, a.map toI = b.map toI → a = b
  | [], [], _ => rfl
  | [], _ :: _, h => nomatch h
  | _ :: _, [], h => nomatch h
  | x :: a, y :: b, h => by
    injection h with h1 h2
    rw [toI_inj h1, map_inj h2]
theorem sig_to (m : Nat) (fd : List FD) (o T : Nat) (c d : List Bool) : sigC m (fd.map decD) (o : Int) T (c.map toI) = sigC m (fd.map decD) (o : Int) T (d.map toI) ↔ sigF m fd o T c = sigF m fd o T d := by
  have e : ∀ c : List Bool, sigC m (fd.map decD) (o : Int) T (c.map toI) = ((ruF m fd o false T c).map toI, (ruF m fd o true T c).map toI) := fun c => by
    unfold sigC
    rw [← ru_to, ← ru_to]
    rfl
  rw [e, e]
  unfold sigF
  constructor
  · intro h
    injection h with h1 h2
    rw [map_inj h1, map_inj h2]
  · intro h
    injection h with h1 h2
    rw [h1, h2]
/-- states on the way of noughts, or of ones -/
def trail (m : Nat) (fd : List FD) (b : Bool) : Nat → List Bool → List (List Bool)
  | 0, _ => []
  | t + 1, c => c :: trail m fd b t (ncF fd c (List.replicate m b))
/-- which class a state is of -/
def labF (L : List (List Bool)) (ix : List Nat) (c : List Bool) : Option Nat := (L.zip ix).lookup c
def chkF (m : Nat) (fd : List FD) (o T : Nat) (L R : List (List Bool)) (ix : List Nat) (s : Nat) : Bool :=
  (labF L ix (fstF fd)).isSome &&
  (L.zip ix).all (fun e => match R[e.2]? with
    | none => false
    | some r => (allF m).all fun bs => obF fd o e.1 bs == obF fd o r bs && labF L ix (ncF fd e.1 bs) == labF L ix (ncF fd r bs) && (labF L ix (ncF fd e.1 bs)).isSome) &&
  R.all (fun r => (labF L ix r).isSome) && decide (R.map (sigF m fd o T)).Nodup && decide (R.length = s) && decide (L.length = ix.length) && L.all (fun c => (labF L ix c).isSome)
def moreF (c : Nm) (m k a : Nat) : List FD :=
  match c with
  | .clear => [(2, a, m + k), (6, a, m + k + 1)]
  | .set => [(3, a, m + k)]
  | .turn => [(4, a, m + k)]
  | .add => [(5, a, m + k)]
  | .twice => [(2, a, m + k), (5, a, m + k + 1)]
  | .leave => []
def rowF (c : Nm) (m k a : Nat) : List FD := ((0, 0, 0) :: (List.range k).map fun t => (1, m + t, 0)) ++ moreF c m k a
theorem rowF_eq (c : Nm) (m k a : Nat) : (rowF c m k a).map decD = rowD c m k a := by
  unfold rowF rowD bitDs
  rw [List.map_append, List.map_cons, List.map_map]
  congr 1
  cases c <;> rfl
def stN (c : Nm) (k : Nat) : Nat :=
  match c with
  | .leave => 1
  | .twice => k + 3
  | _ => k + 2
def onesF (m : Nat) (fd : List FD) : Nat → List Bool → List Bool
  | 0, c => c
  | t + 1, c => onesF m fd t (ncF fd c (List.replicate m true))
def LF (c : Nm) (m k a : Nat) : List (List Bool) := trail m (rowF c m k a) false (k + 2) (fstF (rowF c m k a)) ++ trail m (rowF c m k a) true 2 (onesF m (rowF c m k a) (k + 1) (fstF (rowF c m k a)))
def RF (c : Nm) (m k a : Nat) : List (List Bool) :=
  match c with
  | .leave => [fstF (rowF .leave m k a)]
  | .twice => trail m (rowF .twice m k a) false (k + 2) (fstF (rowF .twice m k a)) ++ [onesF m (rowF .twice m k a) (k + 1) (fstF (rowF .twice m k a))]
  | c => trail m (rowF c m k a) false (k + 2) (fstF (rowF c m k a))
def IX (c : Nm) (k : Nat) : List Nat :=
  match c with
  | .leave => List.replicate (k + 4) 0
  | .add => List.range (k + 2) ++ [k, k]
  | .twice => List.range (k + 2) ++ [k + 2, k + 2]
  | _ => List.range (k + 2) ++ [k + 1, k + 1]
def okC (c : Nm) (m k a : Nat) : Bool := chkF m (rowF c m k a) (outN c m k a) (k + 2) (LF c m k a) (RF c m k a) (IX c k) (stN c k)
section ct51
variable {m : Nat} {fd : List FD} {o T : Nat} {L R : List (List Bool)} {ix : List Nat} {s : Nat}
theorem look_mem {α β : Type} [BEq α] [LawfulBEq α] {x : α} {v : β} : ∀ {l : List (α × β)}, l.lookup x = some v → (x, v) ∈ l
  | [], h => nomatch h
  | (a, b) :: l, h => by
    rw [List.lookup_cons] at h
    split at h
    · rename_i z
      have e := eq_of_beq z
      subst e
      injection h with h
      rw [h]
      exact List.mem_cons_self
    · exact List.mem_cons_of_mem _ (look_mem h)
structure Lab (m : Nat) (fd : List FD) (o : Nat) (L R : List (List Bool)) (ix : List Nat) : Prop where
  each : ∀ c j, labF L ix c = some j → ∃ r, R[j]? = some r ∧ ∀ bs ∈ allF m, obF fd o c bs = obF fd o r bs ∧ labF L ix (ncF fd c bs) = labF L ix (ncF fd r bs) ∧ ∃ i, labF L ix (ncF fd c bs) = some i
theorem rep_all {b : Bool} (hm : m ≤ 2) : List.replicate m b ∈ allF m := by
  rcases (show m = 0 ∨ m = 1 ∨ m = 2 by omega) with rfl | rfl | rfl <;> cases b <;> decide
theorem Lab.run (l : Lab m fd o L R ix) (hm : m ≤ 2) (b : Bool) : ∀ (T : Nat) {c d : List Bool} {i : Nat}, labF L ix c = some i → labF L ix d = some i → ruF m fd o b T c = ruF m fd o b T d
  | 0, _, _, _, _, _ => rfl
  | T + 1, c, d, i, hc, hd => by
    obtain ⟨r, hr, h⟩ := l.each c i hc
    obtain ⟨r', hr', h'⟩ := l.each d i hd
    rw [hr] at hr'
    obtain rfl := Option.some.inj hr'
    obtain ⟨e1, e2, j, e3⟩ := h _ (rep_all (b := b) hm)
    obtain ⟨f1, f2, _⟩ := h' _ (rep_all (b := b) hm)
    have f3 : labF L ix (ncF fd d (List.replicate m b)) = some j := by rw [f2, ← e2, e3]
    show obF fd o c _ :: _ = obF fd o d _ :: _
    rw [e1, f1, l.run hm b T e3 f3]
theorem Lab.runR (l : Lab m fd o L R ix) (hm : m ≤ 2) (b : Bool) : ∀ (T : Nat) {c r : List Bool} {i : Nat}, labF L ix c = some i → R[i]? = some r → ruF m fd o b T c = ruF m fd o b T r
  | 0, _, _, _, _, _ => rfl
  | T + 1, c, r, i, hc, hr => by
    obtain ⟨r', hr', h⟩ := l.each c i hc
    rw [hr] at hr'
    obtain rfl := Option.some.inj hr'
    obtain ⟨e1, e2, j, e3⟩ := h _ (rep_all (b := b) hm)
    have f3 : labF L ix (ncF fd r (List.replicate m b)) = some j := by rw [← e2, e3]
    show obF fd o c _ :: _ = obF fd o r _ :: _
    rw [e1, l.run hm b T e3 f3]
theorem Lab.sigR (l : Lab m fd o L R ix) (hm : m ≤ 2) {c r : List Bool} {i : Nat} (hc : labF L ix c = some i) (hr : R[i]? = some r) : sigF m fd o T c = sigF m fd o T r := by
  unfold sigF
  rw [l.runR hm false T hc hr, l.runR hm true T hc hr]
theorem Lab.sig (l : Lab m fd o L R ix) (hm : m ≤ 2) {c d : List Bool} {i : Nat} (hc : labF L ix c = some i) (hd : labF L ix d = some i) : sigF m fd o T c = sigF m fd o T d := by
  unfold sigF
  rw [l.run hm false T hc hd, l.run hm true T hc hd]
def Rea (m : Nat) (fd : List FD) (c : List Bool) : Prop := ∃ cols : List (List Int), (∀ b ∈ cols, b ∈ allB m) ∧ c.map toI = runC (fd.map decD) ((fd.map decD).map fcD) cols
theorem rea_first : Rea m fd (fstF fd) := ⟨[], (fun _ z => nomatch z), (fst_to fd).symm⟩
theorem Rea.next {c : List Bool} (h : Rea m fd c) (b : Bool) : Rea m fd (ncF fd c (List.replicate m b)) := by
  obtain ⟨cols, hc, e⟩ := h
  refine ⟨cols ++ [(List.replicate m b).map toI], fun x hx => ?_, ?_⟩
  · rcases List.mem_append.mp hx with z | z
    · exact hc x z
    · rw [List.mem_singleton.mp z, List.map_replicate]
      exact rep_in (by cases b <;> first | exact bit0 | exact bit1)
  · rw [runC_snoc, ← e, nc_to]
theorem rea_trail {b : Bool} : ∀ (t : Nat) {c : List Bool}, Rea m fd c → ∀ x ∈ trail m fd b t c, Rea m fd x
  | 0, _, _, x, hx => nomatch hx
  | t + 1, c, h, x, hx => by
    rcases List.mem_cons.mp hx with rfl | hx
    · exact h
    · exact rea_trail t (h.next b) x hx
theorem rea_ones : ∀ (t : Nat) {c : List Bool}, Rea m fd c → Rea m fd (onesF m fd t c)
  | 0, _, h => h
  | t + 1, _, h => rea_ones t (h.next true)
theorem chk_cls (hm : m ≤ 2) (h : chkF m fd o T L R ix s = true) (come : ∀ c ∈ L, Rea m fd c) : ClsF m (fd.map decD) (o : Int) T (L.map fun c => c.map toI) (R.map fun c => c.map toI) ∧ R.length = s := by
  unfold chkF at h
  simp only [Bool.and_eq_true, decide_eq_true_iff, List.all_eq_true] at h
  obtain ⟨⟨⟨⟨⟨⟨h1, h2⟩, h3⟩, h4⟩, h5⟩, _⟩, h7⟩ := h
  have mem : ∀ {c j}, labF L ix c = some j → (c, j) ∈ L.zip ix := fun e => look_mem e
  have inL : ∀ {c}, (labF L ix c).isSome = true → c ∈ L := fun {c} e => by
    obtain ⟨j, hj⟩ := Option.isSome_iff_exists.mp e
    exact (List.of_mem_zip (mem hj)).1
  have lab : Lab m fd o L R ix := ⟨fun c j e => by
    have := h2 (c, j) (mem e)
    split at this
    · cases this
    · rename_i r hr
      refine ⟨r, hr, fun bs hb => ?_⟩
      have q := List.all_eq_true.mp this bs hb
      simp only [Bool.and_eq_true, beq_iff_eq] at q
      exact ⟨q.1.1, q.1.2, Option.isSome_iff_exists.mp q.2⟩⟩
  have bits : ∀ bs ∈ allB m, ∃ b ∈ allF m, bs = b.map toI := fun bs hb => by
    rw [all_to m hm] at hb
    obtain ⟨b, h, e⟩ := List.mem_map.mp hb
    exact ⟨b, h, e.symm⟩
  have inR : ∀ {c i}, labF L ix c = some i → ∃ r, R[i]? = some r := fun e => by
    obtain ⟨r, hr, _⟩ := lab.each _ _ e
    exact ⟨r, hr⟩
  refine ⟨⟨?_, ?_, ?_, ?_, ?_, ?_, ?_⟩, h5⟩
  · rw [fst_to]
    exact List.mem_map.mpr ⟨_, inL h1, rfl⟩
  · intro c hc bs hb
    obtain ⟨c, gc, rfl⟩ := List.mem_map.mp hc
    obtain ⟨b, gb, rfl⟩ := bits bs hb
    obtain ⟨j, hj⟩ := Option.isSome_iff_exists.mp (h7 c gc)
    obtain ⟨r, _, q⟩ := lab.each c j hj
    obtain ⟨_, _, i, hi⟩ := q b gb
    show nc (fd.map decD) (c.map toI) (b.map toI) ∈ _
    rw [nc_to]
    exact List.mem_map.mpr ⟨_, inL (by rw [hi]; rfl), rfl⟩
  · intro c hc
    obtain ⟨c, gc, rfl⟩ := List.mem_map.mp hc
    exact come c gc
  · intro c hc d hd e bs hb
    obtain ⟨c, gc, rfl⟩ := List.mem_map.mp hc
    obtain ⟨d, gd, rfl⟩ := List.mem_map.mp hd
    obtain ⟨b, gb, rfl⟩ := bits bs hb
    have e := (sig_to m fd o T c d).mp e
    obtain ⟨i, hi⟩ := Option.isSome_iff_exists.mp (h7 c gc)
    obtain ⟨j, hj⟩ := Option.isSome_iff_exists.mp (h7 d gd)
    obtain ⟨r, hr, q⟩ := lab.each c i hi
    obtain ⟨r', hr', q'⟩ := lab.each d j hj
    have er : sigF m fd o T r = sigF m fd o T r' := by rw [← lab.sigR hm hi hr, ← lab.sigR hm hj hr', e]
    have eij : i = j := nd_idx (cs := R.map (sigF m fd o T)) h4 (by rw [List.getElem?_map, hr]; rfl) (by rw [List.getElem?_map, hr', er]; rfl)
    subst eij
    rw [hr] at hr'
    obtain rfl := Option.some.inj hr'
    obtain ⟨a1, a2, u, a3⟩ := q b gb
    obtain ⟨b1, b2, _⟩ := q' b gb
    refine ⟨?_, ?_⟩
    · show ob (fd.map decD) (o : Int) (c.map toI) (b.map toI) = ob (fd.map decD) (o : Int) (d.map toI) (b.map toI)
      rw [ob_to, ob_to, a1, b1]
    · show sigC m (fd.map decD) (o : Int) T (nc (fd.map decD) (c.map toI) (b.map toI)) = sigC m (fd.map decD) (o : Int) T (nc (fd.map decD) (d.map toI) (b.map toI))
      rw [nc_to, nc_to]
      exact (sig_to m fd o T _ _).mpr (lab.sig hm a3 (by rw [b2, ← a2, a3]))
  · intro r hr
    obtain ⟨r, gr, rfl⟩ := List.mem_map.mp hr
    exact List.mem_map.mpr ⟨_, inL (h3 r gr), rfl⟩
  · rw [List.map_map, List.nodup_iff_pairwise_ne, List.pairwise_map]
    rw [List.nodup_iff_pairwise_ne, List.pairwise_map] at h4
    exact List.Pairwise.imp (fun {a b} z y => z ((sig_to m fd o T a b).mp y)) h4
  · intro c hc
    obtain ⟨c, gc, rfl⟩ := List.mem_map.mp hc
    obtain ⟨i, hi⟩ := Option.isSome_iff_exists.mp (h7 c gc)
    obtain ⟨r, hr⟩ := inR hi
    exact List.mem_map.mpr ⟨r.map toI, List.mem_map.mpr ⟨r, List.mem_of_getElem? hr, rfl⟩, (sig_to m fd o T r c).mpr (lab.sigR hm hi hr).symm⟩
end ct51
set_option maxRecDepth 100000 in
theorem ok_one : (([Nm.clear, .set, .turn, .add, .twice, .leave] : List Nm).all fun c => (List.range 6).all fun k => okC c 1 k 0) = true := by decide +kernel
set_option maxRecDepth 100000 in
theorem ok_two0 : (([Nm.clear, .set, .turn, .add, .twice, .leave] : List Nm).all fun c => (List.range 6).all fun k => okC c 2 k 0) = true := by decide +kernel
set_option maxRecDepth 100000 in
theorem ok_two1 : (([Nm.clear, .set, .turn, .add, .twice, .leave] : List Nm).all fun c => (List.range 6).all fun k => okC c 2 k 1) = true := by decide +kernel
theorem okC_all {c : Nm} {m k a : Nat} (m1 : 1 ≤ m) (m2 : m ≤ 2) (hk : k ≤ 5) (ha : a < m) : okC c m k a = true := by
  have hc : c ∈ ([Nm.clear, .set, .turn, .add, .twice, .leave] : List Nm) := by cases c <;> simp
  have hkr : k ∈ List.range 6 := List.mem_range.mpr (by omega)
  have get : ∀ {f : Nm → Nat → Bool}, (([Nm.clear, .set, .turn, .add, .twice, .leave] : List Nm).all fun c => (List.range 6).all fun k => f c k) = true → f c k = true := fun h => List.all_eq_true.mp (List.all_eq_true.mp h c hc) k hkr
  rcases (show m = 1 ∨ m = 2 by omega) with rfl | rfl
  · obtain rfl : a = 0 := by omega
    exact get ok_one
  · rcases (show a = 0 ∨ a = 1 by omega) with rfl | rfl
    · exact get ok_two0
    · exact get ok_two1
theorem states51 {c : Nm} {m k a : Nat} {lm : List MRow} (m1 : 1 ≤ m) (m2 : m ≤ 2) (hk : k ≤ 5) (ha : a < m) (h : LmOk m (rowD c m k a) ((outN c m k a : Nat) : Int) lm) : lm.length = stN c k := by
  obtain ⟨C, e⟩ := chk_cls m2 (okC_all (c := c) m1 m2 hk ha) fun x hx => by
    unfold LF at hx
    rcases List.mem_append.mp hx with z | z
    · exact rea_trail _ rea_first x z
    · exact rea_trail _ (rea_ones _ rea_first) x z
  rw [rowF_eq] at C
  rw [C.count h, List.length_map, e]
section zip3
def Itz3 (K : PySem.W.Frag) (a b d : Addr) : It where
  go := fun i H => ∃ (xs ys us : List V) (x y u : V), SqL K H a xs ∧ SqL K H b ys ∧ SqL K H d us ∧ xs[i]? = some x ∧ ys[i]? = some y ∧ us[i]? = some u
  yld := fun i H v H' => ∃ T x y u, v = .ref T ∧ H T = none ∧ H' = upd H T (.tup [x, y, u]) ∧ (∀ xs, SqL K H a xs → xs[i]? = some x) ∧ (∀ ys, SqL K H b ys → ys[i]? = some y) ∧ ∀ us, SqL K H d us → us[i]? = some u
  stop := fun i H => ∃ xs ys us : List V, SqL K H a xs ∧ SqL K H b ys ∧ SqL K H d us ∧ i ≤ xs.length ∧ i ≤ ys.length ∧ i ≤ us.length ∧ (i = xs.length ∨ i = ys.length ∨ i = us.length)
theorem turn_zip3 {elts : List Expr} {kk : Nat} {tpos : Pos} {a b d z TI TO j1 j2 j3 : Addr} (D : ZipSep3 z TI TO j1 j2 j3 [j1, a] [j2, b] [j3, d]) (na : a ≠ j1) (nb : b ≠ j2) (nd : d ≠ j3) :
    Turn P w K (.Tuple elts kk tpos) (Itz3 K a b d) [z, TI, TO, j1, j2, j3] z (fun i h => IsZip h z TI TO .none ∧ IsTupOf3 h TI (.ref j1) (.ref j2) (.ref j3) ∧ (∃ x y u, IsTupOf3 h TO x y u) ∧ h.IsListIter j1 a i ∧ h.IsListIter j2 b i ∧ h.IsListIter j3 d i) where
  mem := List.mem_cons_self
  obj := by
    rintro i h ⟨c1, c2, ⟨x, y, u, c3⟩, ⟨o1, e1, _, d1⟩, ⟨o2, e2, _, d2⟩, ⟨o3, e3, _, d3⟩⟩ c hc
    simp only [List.mem_cons, List.not_mem_nil, or_false] at hc
    rcases hc with rfl | rfl | rfl | rfl | rfl | rfl
    · exact ⟨_, c1, fun v z => nomatch z⟩
    · exact ⟨_, c2, fun v z => nomatch z⟩
    · exact ⟨_, c3, fun v z => nomatch z⟩
    · exact ⟨o1, e1, fun v z => by rw [d1] at z; cases z⟩
    · exact ⟨o2, e2, fun v z => by rw [d2] at z; cases z⟩
    · exact ⟨o3, e3, fun v z => by rw [d3] at z; cases z⟩
  keep := by
    rintro i h h' ⟨c1, c2, ⟨x, y, u, c3⟩, c4, c5, c6⟩ k
    exact ⟨k z (by simp) _ c1, k TI (by simp) _ c2, ⟨x, y, u, k TO (by simp) _ c3⟩, c4.at fun o e => k j1 (by simp) o e, c5.at fun o e => k j2 (by simp) o e, c6.at fun o e => k j3 (by simp) o e⟩
  item := by
    intro X hP hw hK hc i pins s σ H E I hf st hg
    subst hP hw hK
    obtain ⟨c1, c2, ⟨x0, y0, w0, c3⟩, c4, c5, c6⟩ := st
    obtain ⟨xs, ys, us, x, y, w, q1, q2, q3, gx, gy, gw⟩ := hg
    obtain ⟨its, rv, p, _⟩ := I.list q1
    obtain ⟨its2, rv2, p2, _⟩ := I.list q2
    obtain ⟨its3, rv3, p3, _⟩ := I.list q3
    obtain ⟨u, hu, ru⟩ := rv.get gx
    obtain ⟨u2, hu2, ru2⟩ := rv2.get gy
    obtain ⟨u3, hu3, ru3⟩ := rv3.get gw
    have zl : z < s.heap.objs.size := Heap.lt_size c1
    have hh : X.A.in1.handled = none := I.ok.hd hc
    have l1 : i < its.toArray.size := by
      have := (List.getElem?_eq_some_iff.mp hu).1
      simpa using this
    have l2 : i < its2.toArray.size := by
      have := (List.getElem?_eq_some_iff.mp hu2).1
      simpa using this
    have l3 : i < its3.toArray.size := by
      have := (List.getElem?_eq_some_iff.mp hu3).1
      simpa using this
    refine wpAny_pyNext_zipD3_item D (Draws.list hh j1 a na its.toArray) (Draws.list hh j2 b nb its2.toArray) (Draws.list hh j3 d nd its3.toArray) c1 c2 c3 ⟨c4, p.isList⟩ ⟨c5, p2.isList⟩ ⟨c6, p3.isList⟩ l1 l2 l3 fun v1 v2 v3 h' tk g1 g2 g3 z' TO' s1' s2' s3' hT hsz hk => ?_
    have ev1 : v1 = u := by
      have g1' : its.toArray[i]? = some v1 := g1
      have e : its[i]? = some v1 := by simpa using g1'
      rw [hu] at e
      exact (Option.some.inj e).symm
    have ev2 : v2 = u2 := by
      have g2' : its2.toArray[i]? = some v2 := g2
      have e : its2[i]? = some v2 := by simpa using g2'
      rw [hu2] at e
      exact (Option.some.inj e).symm
    have ev3 : v3 = u3 := by
      have g3' : its3.toArray[i]? = some v3 := g3
      have e : its3[i]? = some v3 := by simpa using g3'
      rw [hu3] at e
      exact (Option.some.inj e).symm
    subst ev1 ev2 ev3
    refine ⟨_, rfl, ?_⟩
    refine wpAny_letOwnedTupleGo_zip (s := { s with heap := h', toks := tk }) z' fun h2 z2 sb => ?_
    have hT2 : h2.get? s.heap.objs.size = some { cls := .type "tuple", data := .seq #[v1, v2, v3] } := (sb.2 _ (Nat.ne_of_gt zl)).trans hT
    have kept : ∀ c o, c ∉ [z, TI, TO, j1, j2, j3] → s.heap.get? c = some o → h2.get? c = some o := fun c o hn e => by
      simp only [List.mem_cons, List.not_mem_nil, or_false, not_or] at hn
      exact (sb.2 c hn.1).trans (hk c o hn.1 hn.2.2.1 hn.2.2.2.1 hn.2.2.2.2.1 hn.2.2.2.2.2 e)
    have new : ObjOk X.prog X.w (upd H s.heap.objs.size (.tup [x, y, w])) h2 s.heap.objs.size (.tup [x, y, w]) :=
      ⟨(by show 3 ≤ sizeLine; decide), [v1, v2, v3], .cons ru (.cons ru2 (.cons ru3 .nil)), ⟨_, hT2, rfl, _, rfl⟩⟩
    have I1 : Inv X pins σ (upd H s.heap.objs.size (.tup [x, y, w])) { s with heap := h2, toks := tk } :=
      I.turnedNew (t' := tk) (ch := [z, TI, TO, j1, j2, j3]) kept hf (Nat.le_refl _) new
    refine ⟨.ref s.heap.objs.size, _, I1, rfl, ⟨_, x, y, w, rfl, I.hok.fresh (Nat.le_refl _), rfl, fun l hl => ?_, fun l hl => ?_, fun l hl => ?_⟩, ⟨z2, ?_, ⟨v1, v2, v3, ?_⟩, ?_, ?_, ?_⟩, fun c hcm => ?_⟩
    · rw [I.list_inj hl q1]
      exact gx
    · rw [I.list_inj hl q2]
      exact gy
    · rw [I.list_inj hl q3]
      exact gw
    · exact (sb.2 _ D.TIz).trans (hk _ _ D.TIz D.TITO D.TIi1 D.TIi2 D.TIi3 c2)
    · exact (sb.2 _ D.TOz).trans TO'
    · exact s1'.1.at fun o e => (sb.2 _ D.zi1.symm).trans e
    · exact s2'.1.at fun o e => (sb.2 _ D.zi2.symm).trans e
    · exact s3'.1.at fun o e => (sb.2 _ D.zi3.symm).trans e
    · have lt : c < s.heap.objs.size := by
        have hcm2 := hcm
        simp only [List.mem_cons, List.not_mem_nil, or_false] at hcm2
        rcases hcm2 with rfl | rfl | rfl | rfl | rfl | rfl
        · exact zl
        · exact Heap.lt_size c2
        · exact Heap.lt_size c3
        · obtain ⟨_, e1, _⟩ := c4
          exact Heap.lt_size e1
        · obtain ⟨_, e1, _⟩ := c5
          exact Heap.lt_size e1
        · obtain ⟨_, e1, _⟩ := c6
          exact Heap.lt_size e1
      rw [upd_ne (Nat.ne_of_lt lt)]
      exact (hf c hcm).1
  done := by
    intro X hP hw hK hc i pins s σ H E I hf st hg
    subst hP hw hK
    obtain ⟨c1, c2, ⟨x0, y0, w0, c3⟩, c4, c5, c6⟩ := st
    obtain ⟨xs, ys, us, q1, q2, q3, g1, g2, g3, g4⟩ := hg
    obtain ⟨its, rv, p, _⟩ := I.list q1
    obtain ⟨its2, rv2, p2, _⟩ := I.list q2
    obtain ⟨its3, rv3, p3, _⟩ := I.list q3
    have l1 := rv.length
    have l2 := rv2.length
    have l3 := rv3.length
    have hh : X.A.in1.handled = none := I.ok.hd hc
    refine wpAny_pyNext_zipD3_end D (Draws.list hh j1 a na its.toArray) (Draws.list hh j2 b nb its2.toArray) (Draws.list hh j3 d nd its3.toArray) c1 c2 c3 ⟨c4, p.isList⟩ ⟨c5, p2.isList⟩ ⟨c6, p3.isList⟩ (by rw [List.size_toArray]; omega) (by rw [List.size_toArray]; omega) (by rw [List.size_toArray]; omega) (by rw [List.size_toArray, List.size_toArray, List.size_toArray]; omega) fun h' tk hk => ⟨rfl, ?_⟩
    refine I.turnedL (t' := tk) (ch := [z, TI, TO, j1, j2, j3]) (fun c o hn e => ?_) hf
    simp only [List.mem_cons, List.not_mem_nil, or_false, not_or] at hn
    exact hk c o hn.1 hn.2.2.1 hn.2.2.2.1 hn.2.2.2.2.1 hn.2.2.2.2.2 e
  self := fun A i s Q E st h => wpAny_pyIter_zip st.1 h
def iZip3 (K : PySem.W.Frag) (ta : TA) : TI := fun σ H R => ta σ H fun vs H1 => ∃ a b d xs ys us, vs = [.ref a, .ref b, .ref d] ∧ SqL K H1 a xs ∧ SqL K H1 b ys ∧ SqL K H1 d us ∧ R (Itz3 K a b d) H1
theorem pi_zip3 {X : Cx} {e e2 e3 : Expr} {ta : TA} {p pos tpos : Pos} {elts : List Expr} {kk : Nat} (hg : Gl X "zip") (hm : X.mg "zip" = none) (ha : PA X [e, e2, e3] ta)
    (z1 : starEach [e, e2, e3] X.env = (false, eval e X.env) :: starEach [e2, e3] X.env := by rfl) (z2 : (backTo pos (starEach [e2, e3] X.env)).any (·.1) = false := by rfl) :
    PI X (.Tuple elts kk tpos) (.Call (.Name "zip" p) [e, e2, e3] [] pos) (iZip3 X.K ta) := by
  constructor
  intro pins s σ H R I h
  refine Call_ (ld_blt I hg hm PyProof.Rows.boot_zip (PyProof.Rows.callWith_type1 (thn (ha.run pos pins s σ H _ I h) fun us s1 ⟨vs, H1, I1, r1, q1⟩ => ?_) z1 z2))
  obtain ⟨a, b, d, xs, ys, ws, rfl, q1, q2, q3, q⟩ := q1
  obtain ⟨u1, u2, u3, rfl, ru1, ru2, ru3⟩ : ∃ u1 u2 u3, us = [u1, u2, u3] ∧ u1 = .ref a ∧ u2 = .ref b ∧ u3 = .ref d := by
    cases r1 with
    | cons ra rr =>
      cases rr with
      | cons rb rn =>
        cases rn with
        | cons rc rn =>
          cases rn
          exact ⟨_, _, _, rfl, ra, rb, rc⟩
  subst ru1 ru2 ru3
  obtain ⟨its, rv, p1, _⟩ := I1.list q1
  obtain ⟨its2, rv2, p2, _⟩ := I1.list q2
  obtain ⟨its3, rv3, p3, _⟩ := I1.list q3
  have la : a < s1.heap.objs.size := p1.lt
  have lb : b < s1.heap.objs.size := p2.lt
  have ld : d < s1.heap.objs.size := p3.lt
  have na : a ≠ s1.heap.objs.size := fun e => absurd la (by rw [e]; exact Nat.lt_irrefl _)
  have nb : b ≠ s1.heap.objs.size + 1 := fun e => absurd lb (by rw [e]; exact Nat.not_lt.mpr (Nat.le_succ _))
  have nd : d ≠ s1.heap.objs.size + 2 := fun e => absurd ld (by rw [e]; exact Nat.not_lt.mpr (Nat.le_add_right _ 2))
  have sep := zip_sep3 (N := s1.heap.objs.size) (fp1 := [a]) (fp2 := [b]) (fp3 := [d]) (fun c hc => by rw [List.mem_singleton.mp hc]; exact la) (fun c hc => by rw [List.mem_singleton.mp hc]; exact lb) (fun c hc => by rw [List.mem_singleton.mp hc]; exact ld)
  refine zip_begins3 (begins_list a its.toArray) (begins_list b its2.toArray) (begins_list d its3.toArray) p1.isList p2.isList p3.isList fun h' g1 g2 g3 g4 g5 g6 hsz hk => ?_
  refine wpAny_pyIter_zip g1 ?_
  have I2 : Inv X pins σ H1 { s1 with heap := h' } := I1.kept (t' := s1.toks) hk
  refine ⟨s1.heap.objs.size + 5, [s1.heap.objs.size + 5, s1.heap.objs.size + 3, s1.heap.objs.size + 4, s1.heap.objs.size, s1.heap.objs.size + 1, s1.heap.objs.size + 2], _, _, H1, rfl, I2,
    turn_zip3 sep na nb nd,
    ⟨g1, g2, ⟨_, _, _, g3⟩, ⟨_, g4, rfl, rfl⟩, ⟨_, g5, rfl, rfl⟩, ⟨_, g6, rfl, rfl⟩⟩, fun c hcm => ?_, q⟩
  have le : s1.heap.objs.size ≤ c := by
    simp only [List.mem_cons, List.not_mem_nil, or_false] at hcm
    rcases hcm with rfl | rfl | rfl | rfl | rfl | rfl
    · exact Nat.le_add_right _ _
    · exact Nat.le_add_right _ _
    · exact Nat.le_add_right _ _
    · exact Nat.le_refl _
    · exact Nat.le_add_right _ _
    · exact Nat.le_add_right _ _
  exact I1.fpOk le (I1.hok.fresh le)
def YTrip (xs ys us : Nat → Option V) : Nat → Hp → V → Hp → Prop := fun i H v H' => ∃ T x y u, v = .ref T ∧ H T = none ∧ H' = upd H T (.tup [x, y, u]) ∧ xs i = some x ∧ ys i = some y ∧ us i = some u
theorem walk_zip3 {K : PySem.W.Frag} {a b d : Addr} {xs ys us : List V} (h1 : xs.length = ys.length) (h2 : xs.length = us.length) : Walk (Itz3 K a b d) xs.length (fun H => SqL K H a xs ∧ SqL K H b ys ∧ SqL K H d us) (YTrip (fun i => xs[i]?) (fun i => ys[i]?) (fun i => us[i]?)) where
  goes := fun i H hi q => ⟨xs, ys, us, xs[i], ys[i]'(by omega), us[i]'(by omega), q.1, q.2.1, q.2.2, List.getElem?_eq_getElem hi, List.getElem?_eq_getElem (by omega), List.getElem?_eq_getElem (by omega)⟩
  stops := fun H q => ⟨xs, ys, us, q.1, q.2.1, q.2.2, Nat.le_refl _, by omega, by omega, .inl rfl⟩
  yields := fun i H v H2 hi q y => by
    obtain ⟨T, x, z, u, h1, h2, h3, h4, h5, h6⟩ := y
    exact ⟨T, x, z, u, h1, h2, h3, h4 xs q.1, h5 ys q.2.1, h6 us q.2.2⟩
end zip3
def spWo : Sp := fun vs H Q _ => ∃ (c : Nm) (k n : Nat) (x : Int), vs = [.str (nmS c), .int (k : Int), .int (n : Int), .int x] ∧ k ≤ 5 ∧ n ≤ 1000 ∧ ∀ H', Same H H' → Q (.int (cfW c k n x)) H'
set_option maxHeartbeats 2000000 in
theorem ok_wo {f fT : Addr} {fd fdT : FuncData} {k : Nat} (F : Fun K "_law_worth" "_law_worth" s_law_worth f fd)
    (GT : FnOk P w K mg base CX0 (k + 1) fT fdT ["width"] spTop) (kT : PySem.W.keepIn K (.ref fT) = true) (bT : Binds K fdT ["width"] []) (gT : mg "_law_top" = some (.ref fT))
    (mI : mg "int" = none) : FnOk P w K mg base CX0 (k + 2) f fd ["word", "k", "width", "x"] spWo := by
  refine F.ok sc_law_worth (fun vs H Q E h => ?_) (fun cdv A outer s H vs Q E hr h => ?_)
  · obtain ⟨c, k, n, x, rfl, _⟩ := h
    rfl
  · obtain ⟨c, k, n, x, rfl, hk, hn, q⟩ := h
    have nd := sc_law_worth.nd
    refine ⟨_, pss_cons (ps_set (i := 4) nd rfl (.inl rfl) (pe_call GT hr (by rfl) gT kT bT .nil pass0 (pa_cons (pv 1) pa_nil)))
    (pss_cons (ps_set (i := 5) nd rfl (.inl rfl) (pe_call GT hr (by rfl) gT kT bT .nil pass0 (pa_cons (pv 2) pa_nil)))
    (pss_cons (ps_set (i := 6) nd rfl (.inl rfl) (pe_op op_mod (pe_op op_fdiv (pv 3) (pv 4)) pe_int))
    (pss_cons (ps_if (pt_cmpR op_ge (pv 1) (pv 2) (nomark _)) (pss_one (ps_ret (pv 3))) pss_nil)
    (pss_cons (ps_if (pt_cmpR op_eq (pv 0) pe_str (nomark _)) (pss_one (ps_ret (pe_op op_sub (pv 3) (pe_op op_mul (pv 6) (pv 4))))) pss_nil)
    (pss_cons (ps_if (pt_cmpR op_eq (pv 0) pe_str (nomark _)) (pss_one (ps_ret (pe_op op_add (pv 3) (pe_op op_mul (pe_op op_sub pe_int (pv 6)) (pv 4))))) pss_nil)
    (pss_cons (ps_if (pt_cmpR op_eq (pv 0) pe_str (nomark _)) (pss_one (ps_ret (pe_op op_add (pv 3) (pe_op op_mul (pe_op op_sub pe_int (pe_op op_mul pe_int (pv 6))) (pv 4))))) pss_nil)
    (pss_cons (ps_if (pt_cmpR op_in_seq (pv 0) (pe_tup (pa_cons pe_str (pa_cons pe_str pa_nil))) (by rfl)) (pss_one (ps_ret (pe_op op_mod (pe_op op_add (pv 3) (pe_op op_mul (pe_ix ix_list (pe_lst (pa_cons pe_int (pa_cons (pv 6) pa_nil))) (pe_callTy call_int1 (by rfl) mI (by decide +kernel) (pa_cons (pe_cmpR op_eq (pv 0) pe_str (nomark _)) pa_nil)) (fun _ _ => rfl)) (pv 4))) (pv 5)))) pss_nil)
    (pss_one (ps_ret (pv 3)))))))))), ?_⟩
    refine ⟨.int k, rfl, k, rfl, by omega, ?_⟩
    refine ⟨.int n, rfl, n, rfl, hn, ?_⟩
    have hp := pw_pos k
    have p32 : (2 : Int) ^ k < 1073741824 := by
      rcases (show k = 0 ∨ k = 1 ∨ k = 2 ∨ k = 3 ∨ k = 4 ∨ k = 5 by omega) with rfl | rfl | rfl | rfl | rfl | rfl <;> decide
    have hpn := pw_pos n
    refine ⟨.int x, rfl, .int (2 ^ k), rfl, x, 2 ^ k, rfl, rfl, ⟨hp, p32⟩, _, 2, rfl, rfl, (by show (0 : Int) < 2; decide), ?_⟩
    change gName 6 (V.int (x / 2 ^ k % 2)) _ _ _
    have cm : ∀ i : Int, CMul i (2 ^ k) := fun i => .inr ⟨by omega, by omega⟩
    refine ⟨.int k, rfl, .int n, rfl, _, _, rfl, rfl, _, rfl, ite2 (fun e => ?_) (fun e => ?_)⟩
    · have e := of_decide_eq_true e
      have : cfW c k n x = x := by unfold cfW; rw [if_pos (by omega)]
      exact ⟨.int x, rfl, by rw [← this]; exact q H (Same.refl H)⟩
    have hkn : ¬ n ≤ k := fun z => e (decide_eq_true (by omega))
    have qq : ∀ H', Same H H' → ∀ v, cfW c k n x = v → Q (.int v) H' := fun H' s v e => by rw [← e]; exact q H' s
    have cm2 : ∀ j : Int, CMul 2 j := fun j => .inl ⟨by decide, by decide⟩
    have fin : ∀ H', Same H H' → ∀ v : Int, cfW c k n x = v → Q (.int v) H' := qq
    cases c
    · refine ⟨.str "clear", rfl, rfl, _, rfl, ?_⟩
      refine ⟨.int x, rfl, .int _, rfl, .int (2 ^ k), rfl, _, 2 ^ k, rfl, rfl, cm _, x, _, rfl, rfl, fin H (Same.refl H) _ (by unfold cfW; rw [if_neg hkn])⟩
    · refine ⟨.str "set", rfl, rfl, _, rfl, ?_⟩
      refine ⟨.str "set", rfl, rfl, _, rfl, ?_⟩
      refine ⟨.int x, rfl, .int _, rfl, 1, _, rfl, rfl, .int (2 ^ k), rfl, _, 2 ^ k, rfl, rfl, cm _, x, _, rfl, rfl, fin H (Same.refl H) _ (by unfold cfW; rw [if_neg hkn])⟩
    · refine ⟨.str "turn", rfl, rfl, _, rfl, ?_⟩
      refine ⟨.str "turn", rfl, rfl, _, rfl, ?_⟩
      refine ⟨.str "turn", rfl, rfl, _, rfl, ?_⟩
      refine ⟨.int x, rfl, .int _, rfl, 2, _, rfl, rfl, cm2 _, 1, _, rfl, rfl, .int (2 ^ k), rfl, _, 2 ^ k, rfl, rfl, cm _, x, _, rfl, rfl, fin H (Same.refl H) _ (by unfold cfW; rw [if_neg hkn])⟩
    · refine ⟨.str "add", rfl, rfl, _, rfl, ?_⟩
      refine ⟨.str "add", rfl, rfl, _, rfl, ?_⟩
      refine ⟨.str "add", rfl, rfl, _, rfl, ?_⟩
      refine ⟨.str "add", rfl, by show 2 ≤ sizeLine; decide, fun T hT => ⟨T, _, rfl, .inr (SqT.of upd_same), rfl, rfl, _, rfl, ?_⟩⟩
      refine ⟨.int x, rfl, .int _, rfl, by show 2 ≤ sizeLine; decide, fun L hL => ⟨.str "add", rfl, rfl, .inr ⟨_, rfl, L, _, 0, .int 1, rfl, rfl, .inl (.inl upd_same), rfl, .int (2 ^ k), rfl, 1, 2 ^ k, rfl, rfl, cm _, x, _, rfl, rfl, .int (2 ^ n), rfl, _, 2 ^ n, rfl, rfl, hpn, fin _ ((same_new hT).trans (same_new hL)) _ (by unfold cfW; rw [if_neg hkn])⟩⟩⟩
    · refine ⟨.str "twice", rfl, rfl, _, rfl, ?_⟩
      refine ⟨.str "twice", rfl, rfl, _, rfl, ?_⟩
      refine ⟨.str "twice", rfl, rfl, _, rfl, ?_⟩
      refine ⟨.str "twice", rfl, by show 2 ≤ sizeLine; decide, fun T hT => ⟨T, _, rfl, .inr (SqT.of upd_same), rfl, rfl, _, rfl, ?_⟩⟩
      refine ⟨.int x, rfl, .int _, rfl, by show 2 ≤ sizeLine; decide, fun L hL => ⟨.str "twice", rfl, rfl, .inr ⟨_, rfl, L, _, 1, .int _, rfl, rfl, .inl (.inl upd_same), rfl, .int (2 ^ k), rfl, _, 2 ^ k, rfl, rfl, cm _, x, _, rfl, rfl, .int (2 ^ n), rfl, _, 2 ^ n, rfl, rfl, hpn, fin _ ((same_new hT).trans (same_new hL)) _ (by unfold cfW; rw [if_neg hkn])⟩⟩⟩
    · refine ⟨.str "leave", rfl, rfl, _, rfl, ?_⟩
      refine ⟨.str "leave", rfl, rfl, _, rfl, ?_⟩
      refine ⟨.str "leave", rfl, rfl, _, rfl, ?_⟩
      refine ⟨.str "leave", rfl, by show 2 ≤ sizeLine; decide, fun T hT => ⟨T, _, rfl, .inr (SqT.of upd_same), rfl, rfl, _, rfl, ?_⟩⟩
      exact ⟨.int x, rfl, fin _ (same_new hT) _ (by unfold cfW; rw [if_neg hkn])⟩
theorem lt_of51 {a b c : Nat} (h : a = b) (k : b < c) : a < c := h ▸ k
def spBr : Sp := fun vs H Q _ => ∃ (m a k : Nat) (c : Nm), vs = [.int (m : Int), .int (a : Int), .int (k : Int), .str (nmS c)] ∧ m ≤ 3 ∧ k ≤ 5 ∧ ∀ H' R, Same H H' → RowAt H' R m (rowD c m k a) ((outN c m k a : Nat) : Int) → Q (.ref R) H'
set_option maxHeartbeats 4000000 in
theorem ok_br {f : Addr} {fd : FuncData} {k : Nat} (F : Fun K "_law_bit_row" "_law_bit_row" s_law_bit_row f fd)
    (mr : mg "range" = none) (mt : mg "tuple" = none) (mn : mg "len" = none) : FnOk P w K mg base CX0 (k + 1) f fd ["many", "at", "k", "word"] spBr := by
  refine F.ok sc_law_bit_row (fun vs H Q E h => ?_) (fun cdv A outer s H vs Q E hr h => ?_)
  · obtain ⟨m, a, k, c, rfl, _⟩ := h
    rfl
  · obtain ⟨m, a, k, c, rfl, hm, hk, q⟩ := h
    have nd := sc_law_bit_row.nd
    have hu := hu_of hr
    refine ⟨_, pss_cons (ps_set (i := 4) nd rfl (.inl rfl) (pe_op op_cat (pe_lst (pa_cons (pe_tup (pa_cons pe_str pa_nil)) pa_nil)) (pe_lc (own := [("turn", 8)]) (g := gName 8) (by rfl) nd (pi_range1 (by rfl) mr (pa_cons (pv 2) pa_nil)) (blkOk_by (own := [("turn", 8)]) (N := N_law_bit_row) (sc := defScope s_law_bit_row) (by decide +kernel)) (fun _ _ _ _ _ => pg_name (i := 8) nd rfl (.inl rfl)) (fun _ _ _ _ _ => pts_nil) (fun _ _ _ _ _ => pe_tup (pa_cons pe_str (pa_cons (pe_op op_add (pv 0) (pv 8)) pa_nil))))))
    (pss_cons (ps_set (i := 5) nd rfl (.inl rfl) (pe_op op_add (pv 0) (pv 2)))
    (pss_cons (ps_set (i := 6) nd rfl (.inl rfl) (pe_disp (pps_cons pe_str (pe_lst (pa_cons (pe_tup (pa_cons pe_str (pa_cons (pv 1) (pa_cons (pv 5) pa_nil)))) (pa_cons (pe_tup (pa_cons pe_str (pa_cons (pv 1) (pa_cons (pe_op op_add (pv 5) pe_int) pa_nil)))) pa_nil)))
      (pps_cons pe_str (pe_lst (pa_cons (pe_tup (pa_cons pe_str (pa_cons (pv 1) (pa_cons (pv 5) pa_nil)))) pa_nil))
      (pps_cons pe_str (pe_lst (pa_cons (pe_tup (pa_cons pe_str (pa_cons (pv 1) (pa_cons (pv 5) pa_nil)))) pa_nil)) pps_nil))) (by rfl) (by rfl) (fun z => by cases z) (by decide)))
    (pss_cons (ps_dput hu (pv 6) pe_str (pe_lst (pa_cons (pe_tup (pa_cons pe_str (pa_cons (pv 1) (pa_cons (pv 5) pa_nil)))) pa_nil)) rfl)
    (pss_cons (ps_dput hu (pv 6) pe_str (pe_lst (pa_cons (pe_tup (pa_cons pe_str (pa_cons (pv 1) (pa_cons (pv 5) pa_nil)))) (pa_cons (pe_tup (pa_cons pe_str (pa_cons (pv 1) (pa_cons (pe_op op_add (pv 5) pe_int) pa_nil)))) pa_nil))) rfl)
    (pss_cons (ps_dput hu (pv 6) pe_str (pe_lst pa_nil) rfl)
    (pss_cons (ps_if (pt_cmpR op_eq (pv 3) pe_str (nomark _)) (pss_one (ps_ret (pe_tup (pa_cons (pv 0) (pa_cons (pe_callTy call_tuple_of (by rfl) mt (by decide +kernel) (pa_cons (pv 4) pa_nil)) (pa_cons (pv 1) pa_nil)))))) pss_nil)
    (pss_cons (ps_set (i := 7) nd rfl (.inl rfl) (pe_op op_cat (pv 4) (pe_dget hu (pv 6) (pv 3) (fun _ _ => rfl))))
    (pss_one (ps_ret (pe_tup (pa_cons (pv 0) (pa_cons (pe_callTy call_tuple_of (by rfl) mt (by decide +kernel) (pa_cons (pv 7) pa_nil)) (pa_cons (pe_op op_sub (pe_op op_add (pv 0) (pe_callB call_len_seq (by rfl) mn PySem.boot_len (pa_cons (pv 7) pa_nil))) pe_int) pa_nil))))))))))))), ?_⟩
    refine ⟨(by show 1 ≤ sizeLine; decide), fun A hA => ?_⟩
    have sA := same_new (o := .tup [V.str "one"]) hA
    have eA : upd H A (.tup [V.str "one"]) A = some (.tup [V.str "one"]) := upd_same
    generalize upd H A (.tup [V.str "one"]) = H1 at sA eA
    refine ⟨(by show 1 ≤ sizeLine; decide), fun B hB => ?_⟩
    have sB := same_new (o := .lst [.ref A]) hB
    have eB : upd H1 B (.lst [.ref A]) B = some (.lst [.ref A]) := upd_same
    generalize upd H1 B (.lst [.ref A]) = H2 at sB eB
    refine ⟨.int k, rfl, (k : Int), rfl, by omega, by omega, fun C hC => ?_⟩
    have tw : ∀ t : Nat, dV (("twice", [((m + t : Nat) : Int)]) : Deed) = [V.str "twice", .int ((m : Int) + (0 + (t : Int)))] := fun t => by
      show [V.str "twice", .int ((m + t : Nat) : Int)] = _
      rw [show ((m + t : Nat) : Int) = (m : Int) + (0 + (t : Int)) by omega]
    refine lc_range (lo := 0) (n := k) (fun i H' => ∃ ts : List Addr, H' C = some (.lst (ts.map V.ref)) ∧ DsAt H' ts ((List.range i).map fun t => (("twice", [((m + t : Nat) : Int)]) : Deed)) ∧ ∀ x u, x ≠ C → H2 x = some u → H' x = some u) ⟨[], upd_same, .nil, fun x u n e => by rw [upd_ne n]; exact e⟩ (fun i H' hi hp => ?_) (fun H' hp => ?_)
    · obtain ⟨ts, eC, hts, kp⟩ := hp
      have tl := awLen hts
      rw [List.length_map, List.length_range] at tl
      refine ⟨rfl, .int m, rfl, .int (0 + (i : Int)), rfl, _, _, rfl, rfl, (by show 2 ≤ sizeLine; decide), fun T hT => ?_⟩
      have sT := same_new (o := .tup [V.str "twice", .int ((m : Int) + (0 + (i : Int)))]) hT
      have eT : upd H' T (.tup [V.str "twice", .int ((m : Int) + (0 + (i : Int)))]) T = some (.tup [V.str "twice", .int ((m : Int) + (0 + (i : Int)))]) := upd_same
      generalize upd H' T (.tup [V.str "twice", .int ((m : Int) + (0 + (i : Int)))]) = H'' at sT eT
      have eC'' := sT _ _ eC
      refine ⟨_, eC'', by rw [List.length_map, tl]; exact small1000 (by omega), ts ++ [T], by rw [upd_same, List.map_append]; rfl, ?_, fun x u n e => by rw [upd_ne n]; exact sT _ _ (kp _ _ n e)⟩
      have t1 : TupsStay H'' (upd H'' C (.lst (ts.map V.ref ++ [.ref T]))) := tups_put eC''
      rw [List.range_succ, List.map_append]
      refine awSnoc (F := fun (r : Addr) (d : Deed) => upd H'' C (.lst (ts.map V.ref ++ [.ref T])) r = some (.tup (dV d))) ?_ (awMap (fun _ _ z => t1 _ _ (sT _ _ z)) hts)
      rw [tw]
      exact t1 _ _ eT
    obtain ⟨ts, eC, hts, kC⟩ := hp
    have nBC : B ≠ C := ne_of_none eB hC
    have nAC : A ≠ C := ne_of_none (sB _ _ eA) hC
    have eB' := kC _ _ nBC eB
    have eA' := kC _ _ nAC (sB _ _ eA)
    have s03 : Same H H' := fun x u e => kC _ _ (ne_of_none ((sA.trans sB) _ _ e) hC) ((sA.trans sB) _ _ e)
    have tl := awLen hts
    rw [List.length_map, List.length_range] at tl
    refine ⟨B, C, _, _, rfl, rfl, eB', eC, by rw [List.length_map, tl, sizeLine_eq]; simp; omega, fun DL hDL => ?_⟩
    have sD := same_new (o := .lst ([V.ref A] ++ ts.map V.ref)) hDL
    have eD : upd H' DL (.lst ([V.ref A] ++ ts.map V.ref)) DL = some (.lst ((A :: ts).map V.ref)) := upd_same
    have eA3 := sD _ _ eA'
    have hts := (Same.tups sD).ds hts
    have s3 := s03.trans sD
    generalize upd H' DL (.lst ([V.ref A] ++ ts.map V.ref)) = H3 at sD eD eA3 hts s3
    clear eC kC eB' eA' sA sB eA eB hA hB hC nBC nAC s03 sD
    refine ⟨.int m, rfl, .int k, rfl, _, _, rfl, rfl, ?_⟩
    change gName 5 (V.int ((m + k : Nat) : Int)) _ _ _
    intro p hp
    have sn := same_new (o := .dK []) hp
    have ep : upd H3 p (.dK []) p = some (.dK []) := upd_same
    have pn := s3.free hp
    generalize upd H3 p (.dK []) = H4 at sn ep
    have eD := sn _ _ eD
    have eA := sn _ _ eA3
    have hts := (Same.tups sn).ds hts
    have s0 : ∀ x u, x ≠ p → H x = some u → H4 x = some u := fun x u n e => sn _ _ (s3 _ _ e)
    refine ⟨.int a, rfl, .int ((m + k : Nat) : Int), rfl, ?_⟩
    refine ⟨(by show 3 ≤ sizeLine; decide), fun T1 hT1 => ?_⟩
    have sn := same_new (o := .tup [V.str "and", .int a, .int ((m + k : Nat) : Int)]) hT1
    have eT1 : upd H4 T1 (.tup [V.str "and", .int a, .int ((m + k : Nat) : Int)]) T1 = some (.tup [V.str "and", .int a, .int ((m + k : Nat) : Int)]) := upd_same
    generalize upd H4 T1 (.tup [V.str "and", .int a, .int ((m + k : Nat) : Int)]) = H5 at sn eT1
    have eD := sn _ _ eD
    have eA := sn _ _ eA
    have ep := sn _ _ ep
    have hts := (Same.tups sn).ds hts
    have s0 : ∀ x u, x ≠ p → H x = some u → H5 x = some u := fun x u n e => sn _ _ (s0 x u n e)
    refine ⟨.int a, rfl, .int ((m + k : Nat) : Int), rfl, _, 1, rfl, rfl, ?_⟩
    refine ⟨(by show 3 ≤ sizeLine; decide), fun T2 hT2 => ?_⟩
    have sn := same_new (o := .tup [V.str "sub", .int a, .int (((m + k : Nat) : Int) + 1)]) hT2
    have eT2 : upd H5 T2 (.tup [V.str "sub", .int a, .int (((m + k : Nat) : Int) + 1)]) T2 = some (.tup [V.str "sub", .int a, .int (((m + k : Nat) : Int) + 1)]) := upd_same
    generalize upd H5 T2 (.tup [V.str "sub", .int a, .int (((m + k : Nat) : Int) + 1)]) = H6 at sn eT2
    have eD := sn _ _ eD
    have eA := sn _ _ eA
    have ep := sn _ _ ep
    have eT1 := sn _ _ eT1
    have hts := (Same.tups sn).ds hts
    have s0 : ∀ x u, x ≠ p → H x = some u → H6 x = some u := fun x u n e => sn _ _ (s0 x u n e)
    refine ⟨(by show 2 ≤ sizeLine; decide), fun L1 hL1 => ?_⟩
    have sn := same_new (o := .lst [.ref T1, .ref T2]) hL1
    have eL1 : upd H6 L1 (.lst [.ref T1, .ref T2]) L1 = some (.lst [.ref T1, .ref T2]) := upd_same
    generalize upd H6 L1 (.lst [.ref T1, .ref T2]) = H7 at sn eL1
    have eD := sn _ _ eD
    have eA := sn _ _ eA
    have ep := sn _ _ ep
    have eT1 := sn _ _ eT1
    have eT2 := sn _ _ eT2
    have hts := (Same.tups sn).ds hts
    have s0 : ∀ x u, x ≠ p → H x = some u → H7 x = some u := fun x u n e => sn _ _ (s0 x u n e)
    refine ⟨.int a, rfl, .int ((m + k : Nat) : Int), rfl, ?_⟩
    refine ⟨(by show 3 ≤ sizeLine; decide), fun T3 hT3 => ?_⟩
    have sn := same_new (o := .tup [V.str "or", .int a, .int ((m + k : Nat) : Int)]) hT3
    have eT3 : upd H7 T3 (.tup [V.str "or", .int a, .int ((m + k : Nat) : Int)]) T3 = some (.tup [V.str "or", .int a, .int ((m + k : Nat) : Int)]) := upd_same
    generalize upd H7 T3 (.tup [V.str "or", .int a, .int ((m + k : Nat) : Int)]) = H8 at sn eT3
    have eD := sn _ _ eD
    have eA := sn _ _ eA
    have ep := sn _ _ ep
    have eT1 := sn _ _ eT1
    have eT2 := sn _ _ eT2
    have eL1 := sn _ _ eL1
    have hts := (Same.tups sn).ds hts
    have s0 : ∀ x u, x ≠ p → H x = some u → H8 x = some u := fun x u n e => sn _ _ (s0 x u n e)
    refine ⟨(by show 1 ≤ sizeLine; decide), fun L2 hL2 => ?_⟩
    have sn := same_new (o := .lst [.ref T3]) hL2
    have eL2 : upd H8 L2 (.lst [.ref T3]) L2 = some (.lst [.ref T3]) := upd_same
    generalize upd H8 L2 (.lst [.ref T3]) = H9 at sn eL2
    have eD := sn _ _ eD
    have eA := sn _ _ eA
    have ep := sn _ _ ep
    have eT1 := sn _ _ eT1
    have eT2 := sn _ _ eT2
    have eL1 := sn _ _ eL1
    have eT3 := sn _ _ eT3
    have hts := (Same.tups sn).ds hts
    have s0 : ∀ x u, x ≠ p → H x = some u → H9 x = some u := fun x u n e => sn _ _ (s0 x u n e)
    refine ⟨.int a, rfl, .int ((m + k : Nat) : Int), rfl, ?_⟩
    refine ⟨(by show 3 ≤ sizeLine; decide), fun T4 hT4 => ?_⟩
    have sn := same_new (o := .tup [V.str "xor", .int a, .int ((m + k : Nat) : Int)]) hT4
    have eT4 : upd H9 T4 (.tup [V.str "xor", .int a, .int ((m + k : Nat) : Int)]) T4 = some (.tup [V.str "xor", .int a, .int ((m + k : Nat) : Int)]) := upd_same
    generalize upd H9 T4 (.tup [V.str "xor", .int a, .int ((m + k : Nat) : Int)]) = H10 at sn eT4
    have eD := sn _ _ eD
    have eA := sn _ _ eA
    have ep := sn _ _ ep
    have eT1 := sn _ _ eT1
    have eT2 := sn _ _ eT2
    have eL1 := sn _ _ eL1
    have eT3 := sn _ _ eT3
    have eL2 := sn _ _ eL2
    have hts := (Same.tups sn).ds hts
    have s0 : ∀ x u, x ≠ p → H x = some u → H10 x = some u := fun x u n e => sn _ _ (s0 x u n e)
    refine ⟨(by show 1 ≤ sizeLine; decide), fun L3 hL3 => ?_⟩
    have sn := same_new (o := .lst [.ref T4]) hL3
    have eL3 : upd H10 L3 (.lst [.ref T4]) L3 = some (.lst [.ref T4]) := upd_same
    generalize upd H10 L3 (.lst [.ref T4]) = H11 at sn eL3
    have eD := sn _ _ eD
    have eA := sn _ _ eA
    have ep := sn _ _ ep
    have eT1 := sn _ _ eT1
    have eT2 := sn _ _ eT2
    have eL1 := sn _ _ eL1
    have eT3 := sn _ _ eT3
    have eL2 := sn _ _ eL2
    have eT4 := sn _ _ eT4
    have hts := (Same.tups sn).ds hts
    have s0 : ∀ x u, x ≠ p → H x = some u → H11 x = some u := fun x u n e => sn _ _ (s0 x u n e)
    refine ⟨ep, [(Sum.inr "clear", .ref L1), (Sum.inr "set", .ref L2), (Sum.inr "turn", .ref L3)], rfl, (by show 3 ≤ 15; decide), ?_⟩
    have kn : ∀ x u, x ≠ p → H11 x = some u → upd H11 p (.dK (mergeK [] [(Sum.inr "clear", .ref L1), (Sum.inr "set", .ref L2), (Sum.inr "turn", .ref L3)])) x = some u := fun x u n e => by rw [upd_ne n]; exact e
    have eD := kn _ _ (ne_of eD ep (fun z => nomatch z)) eD
    have eA := kn _ _ (ne_of eA ep (fun z => nomatch z)) eA
    have eT1 := kn _ _ (ne_of eT1 ep (fun z => nomatch z)) eT1
    have eT2 := kn _ _ (ne_of eT2 ep (fun z => nomatch z)) eT2
    have eL1 := kn _ _ (ne_of eL1 ep (fun z => nomatch z)) eL1
    have eT3 := kn _ _ (ne_of eT3 ep (fun z => nomatch z)) eT3
    have eL2 := kn _ _ (ne_of eL2 ep (fun z => nomatch z)) eL2
    have eT4 := kn _ _ (ne_of eT4 ep (fun z => nomatch z)) eT4
    have eL3 := kn _ _ (ne_of eL3 ep (fun z => nomatch z)) eL3
    have tn : TupsStay H11 (upd H11 p (.dK (mergeK [] [(Sum.inr "clear", .ref L1), (Sum.inr "set", .ref L2), (Sum.inr "turn", .ref L3)]))) := fun x xs e => kn _ _ (ne_of e ep (fun z => nomatch z)) e
    have hts := tn.ds hts
    have s0 : ∀ x u, x ≠ p → H x = some u → upd H11 p (.dK (mergeK [] [(Sum.inr "clear", .ref L1), (Sum.inr "set", .ref L2), (Sum.inr "turn", .ref L3)])) x = some u := fun x u n e => kn _ _ n (s0 x u n e)
    have ep : upd H11 p (.dK (mergeK [] [(Sum.inr "clear", .ref L1), (Sum.inr "set", .ref L2), (Sum.inr "turn", .ref L3)])) p = some (.dK (mergeK [] [(Sum.inr "clear", .ref L1), (Sum.inr "set", .ref L2), (Sum.inr "turn", .ref L3)])) := upd_same
    generalize upd H11 p (.dK (mergeK [] [(Sum.inr "clear", .ref L1), (Sum.inr "set", .ref L2), (Sum.inr "turn", .ref L3)])) = H12 at ep s0 hts eD eA eT1 eT2 eL1 eT3 eL2 eT4 eL3
    clear kn tn
    refine ⟨.int a, rfl, .int ((m + k : Nat) : Int), rfl, ?_⟩
    refine ⟨(by show 3 ≤ sizeLine; decide), fun T5 hT5 => ?_⟩
    have sn := same_new (o := .tup [V.str "add", .int a, .int ((m + k : Nat) : Int)]) hT5
    have eT5 : upd H12 T5 (.tup [V.str "add", .int a, .int ((m + k : Nat) : Int)]) T5 = some (.tup [V.str "add", .int a, .int ((m + k : Nat) : Int)]) := upd_same
    generalize upd H12 T5 (.tup [V.str "add", .int a, .int ((m + k : Nat) : Int)]) = H13 at sn eT5
    have eD := sn _ _ eD
    have eA := sn _ _ eA
    have ep := sn _ _ ep
    have eT1 := sn _ _ eT1
    have eT2 := sn _ _ eT2
    have eL1 := sn _ _ eL1
    have eT3 := sn _ _ eT3
    have eL2 := sn _ _ eL2
    have eT4 := sn _ _ eT4
    have eL3 := sn _ _ eL3
    have hts := (Same.tups sn).ds hts
    have s0 : ∀ x u, x ≠ p → H x = some u → H13 x = some u := fun x u n e => sn _ _ (s0 x u n e)
    refine ⟨(by show 1 ≤ sizeLine; decide), fun L4 hL4 => ?_⟩
    have sn := same_new (o := .lst [.ref T5]) hL4
    have eL4 : upd H13 L4 (.lst [.ref T5]) L4 = some (.lst [.ref T5]) := upd_same
    generalize upd H13 L4 (.lst [.ref T5]) = H14 at sn eL4
    have eD := sn _ _ eD
    have eA := sn _ _ eA
    have ep := sn _ _ ep
    have eT1 := sn _ _ eT1
    have eT2 := sn _ _ eT2
    have eL1 := sn _ _ eL1
    have eT3 := sn _ _ eT3
    have eL2 := sn _ _ eL2
    have eT4 := sn _ _ eT4
    have eL3 := sn _ _ eL3
    have eT5 := sn _ _ eT5
    have hts := (Same.tups sn).ds hts
    have s0 : ∀ x u, x ≠ p → H x = some u → H14 x = some u := fun x u n e => sn _ _ (s0 x u n e)
    refine ⟨.ref p, rfl, p, _, rfl, DPut.k (k := Sum.inr "add") ep (lt_of51 (b := 3) (by kernel_rfl) (by decide)), ?_⟩
    have kn : ∀ x u, x ≠ p → H14 x = some u → upd H14 p (.dK (putK (mergeK [] [(Sum.inr "clear", .ref L1), (Sum.inr "set", .ref L2), (Sum.inr "turn", .ref L3)]) (Sum.inr "add") (.ref L4))) x = some u := fun x u n e => by rw [upd_ne n]; exact e
    have eD := kn _ _ (ne_of eD ep (fun z => nomatch z)) eD
    have eA := kn _ _ (ne_of eA ep (fun z => nomatch z)) eA
    have eT1 := kn _ _ (ne_of eT1 ep (fun z => nomatch z)) eT1
    have eT2 := kn _ _ (ne_of eT2 ep (fun z => nomatch z)) eT2
    have eL1 := kn _ _ (ne_of eL1 ep (fun z => nomatch z)) eL1
    have eT3 := kn _ _ (ne_of eT3 ep (fun z => nomatch z)) eT3
    have eL2 := kn _ _ (ne_of eL2 ep (fun z => nomatch z)) eL2
    have eT4 := kn _ _ (ne_of eT4 ep (fun z => nomatch z)) eT4
    have eL3 := kn _ _ (ne_of eL3 ep (fun z => nomatch z)) eL3
    have eT5 := kn _ _ (ne_of eT5 ep (fun z => nomatch z)) eT5
    have eL4 := kn _ _ (ne_of eL4 ep (fun z => nomatch z)) eL4
    have tn : TupsStay H14 (upd H14 p (.dK (putK (mergeK [] [(Sum.inr "clear", .ref L1), (Sum.inr "set", .ref L2), (Sum.inr "turn", .ref L3)]) (Sum.inr "add") (.ref L4)))) := fun x xs e => kn _ _ (ne_of e ep (fun z => nomatch z)) e
    have hts := tn.ds hts
    have s0 : ∀ x u, x ≠ p → H x = some u → upd H14 p (.dK (putK (mergeK [] [(Sum.inr "clear", .ref L1), (Sum.inr "set", .ref L2), (Sum.inr "turn", .ref L3)]) (Sum.inr "add") (.ref L4))) x = some u := fun x u n e => kn _ _ n (s0 x u n e)
    have ep : upd H14 p (.dK (putK (mergeK [] [(Sum.inr "clear", .ref L1), (Sum.inr "set", .ref L2), (Sum.inr "turn", .ref L3)]) (Sum.inr "add") (.ref L4))) p = some (.dK (putK (mergeK [] [(Sum.inr "clear", .ref L1), (Sum.inr "set", .ref L2), (Sum.inr "turn", .ref L3)]) (Sum.inr "add") (.ref L4))) := upd_same
    generalize upd H14 p (.dK (putK (mergeK [] [(Sum.inr "clear", .ref L1), (Sum.inr "set", .ref L2), (Sum.inr "turn", .ref L3)]) (Sum.inr "add") (.ref L4))) = H15 at ep s0 hts eD eA eT1 eT2 eL1 eT3 eL2 eT4 eL3 eT5 eL4
    clear kn tn
    refine ⟨.int a, rfl, .int ((m + k : Nat) : Int), rfl, ?_⟩
    refine ⟨(by show 3 ≤ sizeLine; decide), fun T6 hT6 => ?_⟩
    have sn := same_new (o := .tup [V.str "and", .int a, .int ((m + k : Nat) : Int)]) hT6
    have eT6 : upd H15 T6 (.tup [V.str "and", .int a, .int ((m + k : Nat) : Int)]) T6 = some (.tup [V.str "and", .int a, .int ((m + k : Nat) : Int)]) := upd_same
    generalize upd H15 T6 (.tup [V.str "and", .int a, .int ((m + k : Nat) : Int)]) = H16 at sn eT6
    have eD := sn _ _ eD
    have eA := sn _ _ eA
    have ep := sn _ _ ep
    have eT1 := sn _ _ eT1
    have eT2 := sn _ _ eT2
    have eL1 := sn _ _ eL1
    have eT3 := sn _ _ eT3
    have eL2 := sn _ _ eL2
    have eT4 := sn _ _ eT4
    have eL3 := sn _ _ eL3
    have eT5 := sn _ _ eT5
    have eL4 := sn _ _ eL4
    have hts := (Same.tups sn).ds hts
    have s0 : ∀ x u, x ≠ p → H x = some u → H16 x = some u := fun x u n e => sn _ _ (s0 x u n e)
    refine ⟨.int a, rfl, .int ((m + k : Nat) : Int), rfl, _, 1, rfl, rfl, ?_⟩
    refine ⟨(by show 3 ≤ sizeLine; decide), fun T7 hT7 => ?_⟩
    have sn := same_new (o := .tup [V.str "add", .int a, .int (((m + k : Nat) : Int) + 1)]) hT7
    have eT7 : upd H16 T7 (.tup [V.str "add", .int a, .int (((m + k : Nat) : Int) + 1)]) T7 = some (.tup [V.str "add", .int a, .int (((m + k : Nat) : Int) + 1)]) := upd_same
    generalize upd H16 T7 (.tup [V.str "add", .int a, .int (((m + k : Nat) : Int) + 1)]) = H17 at sn eT7
    have eD := sn _ _ eD
    have eA := sn _ _ eA
    have ep := sn _ _ ep
    have eT1 := sn _ _ eT1
    have eT2 := sn _ _ eT2
    have eL1 := sn _ _ eL1
    have eT3 := sn _ _ eT3
    have eL2 := sn _ _ eL2
    have eT4 := sn _ _ eT4
    have eL3 := sn _ _ eL3
    have eT5 := sn _ _ eT5
    have eL4 := sn _ _ eL4
    have eT6 := sn _ _ eT6
    have hts := (Same.tups sn).ds hts
    have s0 : ∀ x u, x ≠ p → H x = some u → H17 x = some u := fun x u n e => sn _ _ (s0 x u n e)
    refine ⟨(by show 2 ≤ sizeLine; decide), fun L5 hL5 => ?_⟩
    have sn := same_new (o := .lst [.ref T6, .ref T7]) hL5
    have eL5 : upd H17 L5 (.lst [.ref T6, .ref T7]) L5 = some (.lst [.ref T6, .ref T7]) := upd_same
    generalize upd H17 L5 (.lst [.ref T6, .ref T7]) = H18 at sn eL5
    have eD := sn _ _ eD
    have eA := sn _ _ eA
    have ep := sn _ _ ep
    have eT1 := sn _ _ eT1
    have eT2 := sn _ _ eT2
    have eL1 := sn _ _ eL1
    have eT3 := sn _ _ eT3
    have eL2 := sn _ _ eL2
    have eT4 := sn _ _ eT4
    have eL3 := sn _ _ eL3
    have eT5 := sn _ _ eT5
    have eL4 := sn _ _ eL4
    have eT6 := sn _ _ eT6
    have eT7 := sn _ _ eT7
    have hts := (Same.tups sn).ds hts
    have s0 : ∀ x u, x ≠ p → H x = some u → H18 x = some u := fun x u n e => sn _ _ (s0 x u n e)
    refine ⟨.ref p, rfl, p, _, rfl, DPut.k (k := Sum.inr "twice") ep (lt_of51 (b := 4) (by kernel_rfl) (by decide)), ?_⟩
    have kn : ∀ x u, x ≠ p → H18 x = some u → upd H18 p (.dK (putK (putK (mergeK [] [(Sum.inr "clear", .ref L1), (Sum.inr "set", .ref L2), (Sum.inr "turn", .ref L3)]) (Sum.inr "add") (.ref L4)) (Sum.inr "twice") (.ref L5))) x = some u := fun x u n e => by rw [upd_ne n]; exact e
    have eD := kn _ _ (ne_of eD ep (fun z => nomatch z)) eD
    have eA := kn _ _ (ne_of eA ep (fun z => nomatch z)) eA
    have eT1 := kn _ _ (ne_of eT1 ep (fun z => nomatch z)) eT1
    have eT2 := kn _ _ (ne_of eT2 ep (fun z => nomatch z)) eT2
    have eL1 := kn _ _ (ne_of eL1 ep (fun z => nomatch z)) eL1
    have eT3 := kn _ _ (ne_of eT3 ep (fun z => nomatch z)) eT3
    have eL2 := kn _ _ (ne_of eL2 ep (fun z => nomatch z)) eL2
    have eT4 := kn _ _ (ne_of eT4 ep (fun z => nomatch z)) eT4
    have eL3 := kn _ _ (ne_of eL3 ep (fun z => nomatch z)) eL3
    have eT5 := kn _ _ (ne_of eT5 ep (fun z => nomatch z)) eT5
    have eL4 := kn _ _ (ne_of eL4 ep (fun z => nomatch z)) eL4
    have eT6 := kn _ _ (ne_of eT6 ep (fun z => nomatch z)) eT6
    have eT7 := kn _ _ (ne_of eT7 ep (fun z => nomatch z)) eT7
    have eL5 := kn _ _ (ne_of eL5 ep (fun z => nomatch z)) eL5
    have tn : TupsStay H18 (upd H18 p (.dK (putK (putK (mergeK [] [(Sum.inr "clear", .ref L1), (Sum.inr "set", .ref L2), (Sum.inr "turn", .ref L3)]) (Sum.inr "add") (.ref L4)) (Sum.inr "twice") (.ref L5)))) := fun x xs e => kn _ _ (ne_of e ep (fun z => nomatch z)) e
    have hts := tn.ds hts
    have s0 : ∀ x u, x ≠ p → H x = some u → upd H18 p (.dK (putK (putK (mergeK [] [(Sum.inr "clear", .ref L1), (Sum.inr "set", .ref L2), (Sum.inr "turn", .ref L3)]) (Sum.inr "add") (.ref L4)) (Sum.inr "twice") (.ref L5))) x = some u := fun x u n e => kn _ _ n (s0 x u n e)
    have ep : upd H18 p (.dK (putK (putK (mergeK [] [(Sum.inr "clear", .ref L1), (Sum.inr "set", .ref L2), (Sum.inr "turn", .ref L3)]) (Sum.inr "add") (.ref L4)) (Sum.inr "twice") (.ref L5))) p = some (.dK (putK (putK (mergeK [] [(Sum.inr "clear", .ref L1), (Sum.inr "set", .ref L2), (Sum.inr "turn", .ref L3)]) (Sum.inr "add") (.ref L4)) (Sum.inr "twice") (.ref L5))) := upd_same
    generalize upd H18 p (.dK (putK (putK (mergeK [] [(Sum.inr "clear", .ref L1), (Sum.inr "set", .ref L2), (Sum.inr "turn", .ref L3)]) (Sum.inr "add") (.ref L4)) (Sum.inr "twice") (.ref L5))) = H19 at ep s0 hts eD eA eT1 eT2 eL1 eT3 eL2 eT4 eL3 eT5 eL4 eT6 eT7 eL5
    clear kn tn
    refine ⟨(by show 0 ≤ sizeLine; decide), fun L6 hL6 => ?_⟩
    have sn := same_new (o := .lst []) hL6
    have eL6 : upd H19 L6 (.lst []) L6 = some (.lst []) := upd_same
    generalize upd H19 L6 (.lst []) = H20 at sn eL6
    have eD := sn _ _ eD
    have eA := sn _ _ eA
    have ep := sn _ _ ep
    have eT1 := sn _ _ eT1
    have eT2 := sn _ _ eT2
    have eL1 := sn _ _ eL1
    have eT3 := sn _ _ eT3
    have eL2 := sn _ _ eL2
    have eT4 := sn _ _ eT4
    have eL3 := sn _ _ eL3
    have eT5 := sn _ _ eT5
    have eL4 := sn _ _ eL4
    have eT6 := sn _ _ eT6
    have eT7 := sn _ _ eT7
    have eL5 := sn _ _ eL5
    have hts := (Same.tups sn).ds hts
    have s0 : ∀ x u, x ≠ p → H x = some u → H20 x = some u := fun x u n e => sn _ _ (s0 x u n e)
    refine ⟨.ref p, rfl, p, _, rfl, DPut.k (k := Sum.inr "leave") ep (lt_of51 (b := 5) (by kernel_rfl) (by decide)), ?_⟩
    have kn : ∀ x u, x ≠ p → H20 x = some u → upd H20 p (.dK (putK (putK (putK (mergeK [] [(Sum.inr "clear", .ref L1), (Sum.inr "set", .ref L2), (Sum.inr "turn", .ref L3)]) (Sum.inr "add") (.ref L4)) (Sum.inr "twice") (.ref L5)) (Sum.inr "leave") (.ref L6))) x = some u := fun x u n e => by rw [upd_ne n]; exact e
    have eD := kn _ _ (ne_of eD ep (fun z => nomatch z)) eD
    have eA := kn _ _ (ne_of eA ep (fun z => nomatch z)) eA
    have eT1 := kn _ _ (ne_of eT1 ep (fun z => nomatch z)) eT1
    have eT2 := kn _ _ (ne_of eT2 ep (fun z => nomatch z)) eT2
    have eL1 := kn _ _ (ne_of eL1 ep (fun z => nomatch z)) eL1
    have eT3 := kn _ _ (ne_of eT3 ep (fun z => nomatch z)) eT3
    have eL2 := kn _ _ (ne_of eL2 ep (fun z => nomatch z)) eL2
    have eT4 := kn _ _ (ne_of eT4 ep (fun z => nomatch z)) eT4
    have eL3 := kn _ _ (ne_of eL3 ep (fun z => nomatch z)) eL3
    have eT5 := kn _ _ (ne_of eT5 ep (fun z => nomatch z)) eT5
    have eL4 := kn _ _ (ne_of eL4 ep (fun z => nomatch z)) eL4
    have eT6 := kn _ _ (ne_of eT6 ep (fun z => nomatch z)) eT6
    have eT7 := kn _ _ (ne_of eT7 ep (fun z => nomatch z)) eT7
    have eL5 := kn _ _ (ne_of eL5 ep (fun z => nomatch z)) eL5
    have eL6 := kn _ _ (ne_of eL6 ep (fun z => nomatch z)) eL6
    have tn : TupsStay H20 (upd H20 p (.dK (putK (putK (putK (mergeK [] [(Sum.inr "clear", .ref L1), (Sum.inr "set", .ref L2), (Sum.inr "turn", .ref L3)]) (Sum.inr "add") (.ref L4)) (Sum.inr "twice") (.ref L5)) (Sum.inr "leave") (.ref L6)))) := fun x xs e => kn _ _ (ne_of e ep (fun z => nomatch z)) e
    have hts := tn.ds hts
    have s0 : ∀ x u, x ≠ p → H x = some u → upd H20 p (.dK (putK (putK (putK (mergeK [] [(Sum.inr "clear", .ref L1), (Sum.inr "set", .ref L2), (Sum.inr "turn", .ref L3)]) (Sum.inr "add") (.ref L4)) (Sum.inr "twice") (.ref L5)) (Sum.inr "leave") (.ref L6))) x = some u := fun x u n e => kn _ _ n (s0 x u n e)
    have ep : upd H20 p (.dK (putK (putK (putK (mergeK [] [(Sum.inr "clear", .ref L1), (Sum.inr "set", .ref L2), (Sum.inr "turn", .ref L3)]) (Sum.inr "add") (.ref L4)) (Sum.inr "twice") (.ref L5)) (Sum.inr "leave") (.ref L6))) p = some (.dK (putK (putK (putK (mergeK [] [(Sum.inr "clear", .ref L1), (Sum.inr "set", .ref L2), (Sum.inr "turn", .ref L3)]) (Sum.inr "add") (.ref L4)) (Sum.inr "twice") (.ref L5)) (Sum.inr "leave") (.ref L6))) := upd_same
    generalize upd H20 p (.dK (putK (putK (putK (mergeK [] [(Sum.inr "clear", .ref L1), (Sum.inr "set", .ref L2), (Sum.inr "turn", .ref L3)]) (Sum.inr "add") (.ref L4)) (Sum.inr "twice") (.ref L5)) (Sum.inr "leave") (.ref L6))) = H21 at ep s0 hts eD eA eT1 eT2 eL1 eT3 eL2 eT4 eL3 eT5 eL4 eT6 eT7 eL5 eL6
    clear kn tn
    have sH : Same H H21 := fun x u e => s0 x u (ne_of_none e pn) e
    have dsD : DsAt H21 (A :: ts) (bitDs m k) := .cons eA hts
    have tl2 : (A :: ts).length = k + 1 := by rw [List.length_cons, tl]
    clear s3 hp pn s0 sn
    cases c
    · refine ⟨.str "clear", rfl, rfl, _, rfl, ?_⟩
      refine ⟨.ref DL, rfl, .ref p, rfl, .str "clear", rfl, p, .ref L1, rfl, dget_at (k := Sum.inr "clear") ep (by kernel_rfl), ?_⟩
      refine ⟨DL, L1, _, _, rfl, rfl, eD, eL1, by rw [List.length_map, tl2, sizeLine_eq]; show k + 1 + 2 ≤ _; omega, fun FN hFN => ?_⟩
      have sF := same_new (o := .lst ((A :: ts).map V.ref ++ [.ref T1, .ref T2])) hFN
      have eF : upd H21 FN (.lst ((A :: ts).map V.ref ++ [.ref T1, .ref T2])) FN = some (.lst ((A :: ts).map V.ref ++ [.ref T1, .ref T2])) := upd_same
      generalize upd H21 FN (.lst ((A :: ts).map V.ref ++ [.ref T1, .ref T2])) = G1 at sF eF
      refine ⟨.int m, rfl, .ref FN, rfl, FN, _, rfl, .inl ⟨.inl (.inl eF), fun D hD => ?_⟩⟩
      have sD := same_new (o := .tup ((A :: ts).map V.ref ++ [.ref T1, .ref T2])) hD
      have eDD : upd G1 D (.tup ((A :: ts).map V.ref ++ [.ref T1, .ref T2])) D = some (.tup (((A :: ts) ++ [T1, T2]).map V.ref)) := by rw [upd_same, List.map_append]; rfl
      generalize upd G1 D (.tup ((A :: ts).map V.ref ++ [.ref T1, .ref T2])) = G2 at sD eDD
      refine ⟨.int m, rfl, .ref FN, rfl, FN, _, rfl, .inl (.inl (.inl (sD _ _ eF))), ?_⟩
      refine ⟨_, _, rfl, rfl, _, 1, rfl, rfl, (by show 3 ≤ sizeLine; decide), fun R hR => ?_⟩
      have eo : (m : Int) + (((A :: ts).map V.ref ++ [V.ref T1, V.ref T2]).length : Nat) - 1 = ((outN .clear m k a : Nat) : Int) := by
        rw [List.length_append, List.length_map, tl2]
        show (m : Int) + ((k + 1 + 2 : Nat) : Int) - 1 = ((m + k + 2 : Nat) : Int)
        omega
      change Q (.ref R) (upd G2 R (.tup [V.int m, .ref D, .int ((m : Int) + (((A :: ts).map V.ref ++ [V.ref T1, V.ref T2]).length : Nat) - 1)]))
      rw [eo]
      have sR := same_new (o := .tup [.int m, .ref D, .int ((outN .clear m k a : Nat) : Int)]) hR
      have s2 := (sF.trans sD).trans sR
      refine q _ R (sH.trans s2) ⟨D, (A :: ts) ++ [T1, T2], upd_same, sR _ _ eDD, ?_⟩
      exact awAppend ((Same.tups s2).ds dsD) (.cons (s2 _ _ eT1) (.cons (s2 _ _ eT2) .nil))
    · refine ⟨.str "set", rfl, rfl, _, rfl, ?_⟩
      refine ⟨.ref DL, rfl, .ref p, rfl, .str "set", rfl, p, .ref L2, rfl, dget_at (k := Sum.inr "set") ep (by kernel_rfl), ?_⟩
      refine ⟨DL, L2, _, _, rfl, rfl, eD, eL2, by rw [List.length_map, tl2, sizeLine_eq]; show k + 1 + 1 ≤ _; omega, fun FN hFN => ?_⟩
      have sF := same_new (o := .lst ((A :: ts).map V.ref ++ [.ref T3])) hFN
      have eF : upd H21 FN (.lst ((A :: ts).map V.ref ++ [.ref T3])) FN = some (.lst ((A :: ts).map V.ref ++ [.ref T3])) := upd_same
      generalize upd H21 FN (.lst ((A :: ts).map V.ref ++ [.ref T3])) = G1 at sF eF
      refine ⟨.int m, rfl, .ref FN, rfl, FN, _, rfl, .inl ⟨.inl (.inl eF), fun D hD => ?_⟩⟩
      have sD := same_new (o := .tup ((A :: ts).map V.ref ++ [.ref T3])) hD
      have eDD : upd G1 D (.tup ((A :: ts).map V.ref ++ [.ref T3])) D = some (.tup (((A :: ts) ++ [T3]).map V.ref)) := by rw [upd_same, List.map_append]; rfl
      generalize upd G1 D (.tup ((A :: ts).map V.ref ++ [.ref T3])) = G2 at sD eDD
      refine ⟨.int m, rfl, .ref FN, rfl, FN, _, rfl, .inl (.inl (.inl (sD _ _ eF))), ?_⟩
      refine ⟨_, _, rfl, rfl, _, 1, rfl, rfl, (by show 3 ≤ sizeLine; decide), fun R hR => ?_⟩
      have eo : (m : Int) + (((A :: ts).map V.ref ++ [V.ref T3]).length : Nat) - 1 = ((outN .set m k a : Nat) : Int) := by
        rw [List.length_append, List.length_map, tl2]
        show (m : Int) + ((k + 1 + 1 : Nat) : Int) - 1 = ((m + k + 1 : Nat) : Int)
        omega
      change Q (.ref R) (upd G2 R (.tup [V.int m, .ref D, .int ((m : Int) + (((A :: ts).map V.ref ++ [V.ref T3]).length : Nat) - 1)]))
      rw [eo]
      have sR := same_new (o := .tup [.int m, .ref D, .int ((outN .set m k a : Nat) : Int)]) hR
      have s2 := (sF.trans sD).trans sR
      refine q _ R (sH.trans s2) ⟨D, (A :: ts) ++ [T3], upd_same, sR _ _ eDD, ?_⟩
      exact awAppend ((Same.tups s2).ds dsD) (.cons (s2 _ _ eT3) .nil)
    · refine ⟨.str "turn", rfl, rfl, _, rfl, ?_⟩
      refine ⟨.ref DL, rfl, .ref p, rfl, .str "turn", rfl, p, .ref L3, rfl, dget_at (k := Sum.inr "turn") ep (by kernel_rfl), ?_⟩
      refine ⟨DL, L3, _, _, rfl, rfl, eD, eL3, by rw [List.length_map, tl2, sizeLine_eq]; show k + 1 + 1 ≤ _; omega, fun FN hFN => ?_⟩
      have sF := same_new (o := .lst ((A :: ts).map V.ref ++ [.ref T4])) hFN
      have eF : upd H21 FN (.lst ((A :: ts).map V.ref ++ [.ref T4])) FN = some (.lst ((A :: ts).map V.ref ++ [.ref T4])) := upd_same
      generalize upd H21 FN (.lst ((A :: ts).map V.ref ++ [.ref T4])) = G1 at sF eF
      refine ⟨.int m, rfl, .ref FN, rfl, FN, _, rfl, .inl ⟨.inl (.inl eF), fun D hD => ?_⟩⟩
      have sD := same_new (o := .tup ((A :: ts).map V.ref ++ [.ref T4])) hD
      have eDD : upd G1 D (.tup ((A :: ts).map V.ref ++ [.ref T4])) D = some (.tup (((A :: ts) ++ [T4]).map V.ref)) := by rw [upd_same, List.map_append]; rfl
      generalize upd G1 D (.tup ((A :: ts).map V.ref ++ [.ref T4])) = G2 at sD eDD
      refine ⟨.int m, rfl, .ref FN, rfl, FN, _, rfl, .inl (.inl (.inl (sD _ _ eF))), ?_⟩
      refine ⟨_, _, rfl, rfl, _, 1, rfl, rfl, (by show 3 ≤ sizeLine; decide), fun R hR => ?_⟩
      have eo : (m : Int) + (((A :: ts).map V.ref ++ [V.ref T4]).length : Nat) - 1 = ((outN .turn m k a : Nat) : Int) := by
        rw [List.length_append, List.length_map, tl2]
        show (m : Int) + ((k + 1 + 1 : Nat) : Int) - 1 = ((m + k + 1 : Nat) : Int)
        omega
      change Q (.ref R) (upd G2 R (.tup [V.int m, .ref D, .int ((m : Int) + (((A :: ts).map V.ref ++ [V.ref T4]).length : Nat) - 1)]))
      rw [eo]
      have sR := same_new (o := .tup [.int m, .ref D, .int ((outN .turn m k a : Nat) : Int)]) hR
      have s2 := (sF.trans sD).trans sR
      refine q _ R (sH.trans s2) ⟨D, (A :: ts) ++ [T4], upd_same, sR _ _ eDD, ?_⟩
      exact awAppend ((Same.tups s2).ds dsD) (.cons (s2 _ _ eT4) .nil)
    · refine ⟨.str "add", rfl, rfl, _, rfl, ?_⟩
      refine ⟨.ref DL, rfl, .ref p, rfl, .str "add", rfl, p, .ref L4, rfl, dget_at (k := Sum.inr "add") ep (by kernel_rfl), ?_⟩
      refine ⟨DL, L4, _, _, rfl, rfl, eD, eL4, by rw [List.length_map, tl2, sizeLine_eq]; show k + 1 + 1 ≤ _; omega, fun FN hFN => ?_⟩
      have sF := same_new (o := .lst ((A :: ts).map V.ref ++ [.ref T5])) hFN
      have eF : upd H21 FN (.lst ((A :: ts).map V.ref ++ [.ref T5])) FN = some (.lst ((A :: ts).map V.ref ++ [.ref T5])) := upd_same
      generalize upd H21 FN (.lst ((A :: ts).map V.ref ++ [.ref T5])) = G1 at sF eF
      refine ⟨.int m, rfl, .ref FN, rfl, FN, _, rfl, .inl ⟨.inl (.inl eF), fun D hD => ?_⟩⟩
      have sD := same_new (o := .tup ((A :: ts).map V.ref ++ [.ref T5])) hD
      have eDD : upd G1 D (.tup ((A :: ts).map V.ref ++ [.ref T5])) D = some (.tup (((A :: ts) ++ [T5]).map V.ref)) := by rw [upd_same, List.map_append]; rfl
      generalize upd G1 D (.tup ((A :: ts).map V.ref ++ [.ref T5])) = G2 at sD eDD
      refine ⟨.int m, rfl, .ref FN, rfl, FN, _, rfl, .inl (.inl (.inl (sD _ _ eF))), ?_⟩
      refine ⟨_, _, rfl, rfl, _, 1, rfl, rfl, (by show 3 ≤ sizeLine; decide), fun R hR => ?_⟩
      have eo : (m : Int) + (((A :: ts).map V.ref ++ [V.ref T5]).length : Nat) - 1 = ((outN .add m k a : Nat) : Int) := by
        rw [List.length_append, List.length_map, tl2]
        show (m : Int) + ((k + 1 + 1 : Nat) : Int) - 1 = ((m + k + 1 : Nat) : Int)
        omega
      change Q (.ref R) (upd G2 R (.tup [V.int m, .ref D, .int ((m : Int) + (((A :: ts).map V.ref ++ [V.ref T5]).length : Nat) - 1)]))
      rw [eo]
      have sR := same_new (o := .tup [.int m, .ref D, .int ((outN .add m k a : Nat) : Int)]) hR
      have s2 := (sF.trans sD).trans sR
      refine q _ R (sH.trans s2) ⟨D, (A :: ts) ++ [T5], upd_same, sR _ _ eDD, ?_⟩
      exact awAppend ((Same.tups s2).ds dsD) (.cons (s2 _ _ eT5) .nil)
    · refine ⟨.str "twice", rfl, rfl, _, rfl, ?_⟩
      refine ⟨.ref DL, rfl, .ref p, rfl, .str "twice", rfl, p, .ref L5, rfl, dget_at (k := Sum.inr "twice") ep (by kernel_rfl), ?_⟩
      refine ⟨DL, L5, _, _, rfl, rfl, eD, eL5, by rw [List.length_map, tl2, sizeLine_eq]; show k + 1 + 2 ≤ _; omega, fun FN hFN => ?_⟩
      have sF := same_new (o := .lst ((A :: ts).map V.ref ++ [.ref T6, .ref T7])) hFN
      have eF : upd H21 FN (.lst ((A :: ts).map V.ref ++ [.ref T6, .ref T7])) FN = some (.lst ((A :: ts).map V.ref ++ [.ref T6, .ref T7])) := upd_same
      generalize upd H21 FN (.lst ((A :: ts).map V.ref ++ [.ref T6, .ref T7])) = G1 at sF eF
      refine ⟨.int m, rfl, .ref FN, rfl, FN, _, rfl, .inl ⟨.inl (.inl eF), fun D hD => ?_⟩⟩
      have sD := same_new (o := .tup ((A :: ts).map V.ref ++ [.ref T6, .ref T7])) hD
      have eDD : upd G1 D (.tup ((A :: ts).map V.ref ++ [.ref T6, .ref T7])) D = some (.tup (((A :: ts) ++ [T6, T7]).map V.ref)) := by rw [upd_same, List.map_append]; rfl
      generalize upd G1 D (.tup ((A :: ts).map V.ref ++ [.ref T6, .ref T7])) = G2 at sD eDD
      refine ⟨.int m, rfl, .ref FN, rfl, FN, _, rfl, .inl (.inl (.inl (sD _ _ eF))), ?_⟩
      refine ⟨_, _, rfl, rfl, _, 1, rfl, rfl, (by show 3 ≤ sizeLine; decide), fun R hR => ?_⟩
      have eo : (m : Int) + (((A :: ts).map V.ref ++ [V.ref T6, V.ref T7]).length : Nat) - 1 = ((outN .twice m k a : Nat) : Int) := by
        rw [List.length_append, List.length_map, tl2]
        show (m : Int) + ((k + 1 + 2 : Nat) : Int) - 1 = ((m + k + 2 : Nat) : Int)
        omega
      change Q (.ref R) (upd G2 R (.tup [V.int m, .ref D, .int ((m : Int) + (((A :: ts).map V.ref ++ [V.ref T6, V.ref T7]).length : Nat) - 1)]))
      rw [eo]
      have sR := same_new (o := .tup [.int m, .ref D, .int ((outN .twice m k a : Nat) : Int)]) hR
      have s2 := (sF.trans sD).trans sR
      refine q _ R (sH.trans s2) ⟨D, (A :: ts) ++ [T6, T7], upd_same, sR _ _ eDD, ?_⟩
      exact awAppend ((Same.tups s2).ds dsD) (.cons (s2 _ _ eT6) (.cons (s2 _ _ eT7) .nil))
    · refine ⟨.str "leave", rfl, rfl, _, rfl, ?_⟩
      refine ⟨.int m, rfl, .ref DL, rfl, DL, _, rfl, .inl ⟨.inl (.inl eD), fun D hD => ?_⟩⟩
      have sD := same_new (o := .tup ((A :: ts).map V.ref)) hD
      have eDD : upd H21 D (.tup ((A :: ts).map V.ref)) D = some (.tup ((A :: ts).map V.ref)) := upd_same
      generalize upd H21 D (.tup ((A :: ts).map V.ref)) = G2 at sD eDD
      refine ⟨.int a, rfl, (by show 3 ≤ sizeLine; decide), fun R hR => ?_⟩
      have sR := same_new (o := .tup [.int m, .ref D, .int a]) hR
      refine q _ R ((sH.trans sD).trans sR) ⟨D, A :: ts, upd_same, sR _ _ eDD, ?_⟩
      show DsAt _ _ (bitDs m k ++ [])
      rw [List.append_nil]
      exact (Same.tups (sD.trans sR)).ds dsD
def lwV (c d : Nm) (g : Bool) (k : Nat) : Int := if lwW c d g = 0 then 0 else ((k + lwW c d g : Nat) : Int)
def fdW (c d : Nm) (g : Bool) (w : Nat) (j : Int) : Bool := decide (fW d w j < fW c w j) || (!g && decide (fW c w j < fW d w j))
theorem df_none {c d : Nm} {g : Bool} {w : Nat} (h : ∀ j : Nat, (j : Int) < 2 ^ w → fdW c d g w j = false) : ¬ dfW c d g w = true := fun z => by
  unfold dfW at z
  obtain ⟨j, hj, z⟩ := List.any_eq_true.mp z
  have := h j (by rw [pw_cast]; have := List.mem_range.mp hj; omega)
  unfold fdW at this
  rw [this] at z
  cases z
theorem df_some {c d : Nm} {g : Bool} {w j : Nat} (hj : (j : Int) < 2 ^ w) (h : fdW c d g w j = true) : dfW c d g w = true := by
  unfold dfW
  rw [pw_cast] at hj
  exact List.any_eq_true.mpr ⟨j, List.mem_range.mpr (by omega), h⟩
theorem cf_at {c : Nm} {k w j : Nat} (hw : 1 ≤ w) (hj : (j : Int) < 2 ^ w) : cfW c k (k + w) ((j : Int) * 2 ^ k) = fW c w j * 2 ^ k := by
  have hp := pw_pos k
  have eN : (2 : Int) ^ (k + w) = 2 ^ w * 2 ^ k := by rw [Int.pow_add, Int.mul_comm]
  obtain ⟨e, _, _⟩ := cf_f (c := c) (k := k) (n := k + w) (x := (j : Int) * 2 ^ k) (by omega) (Int.mul_nonneg (Int.natCast_nonneg _) (Int.le_of_lt hp)) (by rw [eN]; exact Int.mul_lt_mul_of_pos_right hj hp)
  rw [e, Int.mul_ediv_cancel _ (Int.ne_of_gt hp), Int.mul_emod_left, Int.add_zero, show k + w - k = w by omega]
def spLq : Sp := fun vs H Q _ => ∃ (c d : Nm) (k : Nat) (g : Bool), vs = [.str (nmS c), .str (nmS d), .int (k : Int), .bl g] ∧ k ≤ 5 ∧ ∀ H', Same H H' → Q (.int (lwV c d g k)) H'
set_option maxHeartbeats 4000000 in
theorem ok_lq {f fT fW' : Addr} {fd fdT fdW' : FuncData} {k : Nat} (F : Fun K "_law_least_width" "_law_least_width" s_law_least_width f fd)
    (GT : FnOk P w K mg base CX0 (k + 1) fT fdT ["width"] spTop) (kT : PySem.W.keepIn K (.ref fT) = true) (bT : Binds K fdT ["width"] []) (gT : mg "_law_top" = some (.ref fT))
    (GW : FnOk P w K mg base CX0 (k + 2) fW' fdW' ["word", "k", "width", "x"] spWo) (kW : PySem.W.keepIn K (.ref fW') = true) (bW : Binds K fdW' ["word", "k", "width", "x"] []) (gW : mg "_law_worth" = some (.ref fW')) : FnOk P w K mg base CX0 (k + 3) f fd ["one", "other", "k", "greater"] spLq := by
  refine F.ok sc_law_least_width (fun vs H Q E h => ?_) (fun cdv A outer s H vs Q E hr h => ?_)
  · obtain ⟨c, d, k, g, rfl, _⟩ := h
    rfl
  · obtain ⟨c, d, k, g, rfl, hk, q⟩ := h
    have nd := sc_law_least_width.nd
    have R1 := hr.mono (show _ ≤ _ from Nat.le_succ _)
    refine ⟨_, pss_cons (ps_for PassesOwn.never rfl (pi_list (pe_lst (pa_cons (pe_op op_add (pv 2) pe_int) (pa_cons (pe_op op_add (pv 2) pe_int) (pa_cons (pe_op op_add (pv 2) pe_int) pa_nil))))) (pg_name (i := 4) nd rfl (.inl rfl))
      (pss_cons (ps_set (i := 5) nd rfl (.inl rfl) (pe_call GT R1 (by rfl) gT kT bT .nil pass0 (pa_cons (pv 2) pa_nil)))
      (pss_one (ps_for PassesOwn.never rfl (pi_list (pe_lst (pa_cons pe_int (pa_cons (pv 5) (pa_cons (pe_op op_mul pe_int (pv 5)) (pa_cons (pe_op op_mul pe_int (pv 5)) (pa_cons (pe_op op_mul pe_int (pv 5)) (pa_cons (pe_op op_mul pe_int (pv 5)) (pa_cons (pe_op op_mul pe_int (pv 5)) (pa_cons (pe_op op_mul pe_int (pv 5)) pa_nil)))))))))) (pg_name (i := 6) nd rfl (.inl rfl))
        (pss_one (ps_if (pt_cmpR op_lt (pv 6) (pe_call GT R1 (by rfl) gT kT bT .nil pass0 (pa_cons (pv 4) pa_nil)) (nomark _))
          (pss_cons (ps_par (i := 7) (j := 8) rfl nd rfl rfl (by decide) rfl rfl (pa_cons (pe_call GW hr (by rfl) gW kW bW .nil pass0 (pa_cons (pv 0) (pa_cons (pv 2) (pa_cons (pv 4) (pa_cons (pv 6) pa_nil))))) (pa_cons (pe_call GW hr (by rfl) gW kW bW .nil pass0 (pa_cons (pv 1) (pa_cons (pv 2) (pa_cons (pv 4) (pa_cons (pv 6) pa_nil))))) pa_nil)) (by rfl))
          (pss_one (ps_if (PW.pt (pw_or (pt_cmpR op_gt (pv 7) (pv 8) (nomark _)) (pw_or1 (PW.pt (pw_and (pt_cmpR op_lt (pv 7) (pv 8) (nomark _)) (pw_and1 (pt_not (pt_val (pv 3)))))))))
            (pss_one (ps_ret (pv 4)))
            pss_nil)))
          pss_nil))))))
    (pss_one (ps_ret pe_int)), ?_⟩
    have p32 : (2 : Int) ^ k < 1073741824 := by
      rcases (show k = 0 ∨ k = 1 ∨ k = 2 ∨ k = 3 ∨ k = 4 ∨ k = 5 by omega) with rfl | rfl | rfl | rfl | rfl | rfl <;> decide
    refine ⟨.int k, rfl, _, _, rfl, rfl, .int k, rfl, _, _, rfl, rfl, .int k, rfl, _, _, rfl, rfl, (by show 3 ≤ sizeLine; decide), fun WA hWA => ?_⟩
    have sW := same_new (o := .lst [V.int ((k : Int) + 1), .int ((k : Int) + 2), .int ((k : Int) + 3)]) hWA
    have eW : upd H WA (.lst [V.int ((k : Int) + 1), .int ((k : Int) + 2), .int ((k : Int) + 3)]) WA = some (.lst ((List.range 3).map fun (i : Nat) => V.int ((k + (i + 1) : Nat) : Int))) := upd_same
    generalize upd H WA (.lst [V.int ((k : Int) + 1), .int ((k : Int) + 2), .int ((k : Int) + 3)]) = H1 at sW eW
    refine ⟨WA, rfl, ⟨_, .inl (.inl eW)⟩, for_list (K := K) (a := WA) (xs := (List.range 3).map fun (i : Nat) => V.int ((k + (i + 1) : Nat) : Int)) (fun i σ H' => ∃ (y4 y5 y6 y7 y8 : Option V), σ = [some (.str (nmS c)), some (.str (nmS d)), some (.int (k : Int)), some (.bl g), y4, y5, y6, y7, y8] ∧ Same H1 H' ∧ ∀ v, 1 ≤ v → v ≤ i → ¬ dfW c d g v = true)
      ⟨_, _, _, _, _, rfl, Same.refl H1, fun v a b => absurd a (by omega)⟩ (fun i σ H' _ hp => ?_) (fun i x σ H2 hx hp => ?_) (fun σ H2 hp => ?_)⟩
    · obtain ⟨_, _, _, _, _, _, s, _⟩ := hp
      exact .inl (.inl (s _ _ eW))
    · obtain ⟨y4, y5, y6, y7, y8, rfl, s2, no⟩ := hp
      have i3 : i < 3 := by
        have := (List.getElem?_eq_some_iff.mp hx).1
        rwa [List.length_map, List.length_range] at this
      obtain rfl : x = V.int ((k + (i + 1) : Nat) : Int) := by
        rw [List.getElem?_map, List.getElem?_range i3] at hx
        exact (Option.some.inj hx).symm
      refine ⟨.int k, rfl, k, rfl, by omega, ?_⟩
      have cm : ∀ j : Int, CMul j (2 ^ k) := fun j => .inr ⟨by have := pw_pos k; omega, by omega⟩
      have c2 : ∀ i : Int, CMul i (2 ^ k) := cm
      refine ⟨.int (2 ^ k), rfl, .int (2 ^ k), rfl, 2, _, rfl, rfl, cm 2, .int (2 ^ k), rfl, 3, _, rfl, rfl, cm 3, .int (2 ^ k), rfl, 4, _, rfl, rfl, cm 4, .int (2 ^ k), rfl, 5, _, rfl, rfl, cm 5, .int (2 ^ k), rfl, 6, _, rfl, rfl, cm 6, .int (2 ^ k), rfl, 7, _, rfl, rfl, cm 7, (by show 8 ≤ sizeLine; decide), fun XA hXA => ?_⟩
      have el : [V.int 0, .int (2 ^ k), .int (2 * 2 ^ k), .int (3 * 2 ^ k), .int (4 * 2 ^ k), .int (5 * 2 ^ k), .int (6 * 2 ^ k), .int (7 * 2 ^ k)] = (List.range 8).map fun (j : Nat) => V.int ((j : Int) * 2 ^ k) := by
        show _ = [V.int (0 * 2 ^ k), .int (1 * 2 ^ k), .int (2 * 2 ^ k), .int (3 * 2 ^ k), .int (4 * 2 ^ k), .int (5 * 2 ^ k), .int (6 * 2 ^ k), .int (7 * 2 ^ k)]
        rw [Int.zero_mul, Int.one_mul]
      have sX := same_new (o := .lst [V.int 0, .int (2 ^ k), .int (2 * 2 ^ k), .int (3 * 2 ^ k), .int (4 * 2 ^ k), .int (5 * 2 ^ k), .int (6 * 2 ^ k), .int (7 * 2 ^ k)]) hXA
      have eX : upd H2 XA (.lst [V.int 0, .int (2 ^ k), .int (2 * 2 ^ k), .int (3 * 2 ^ k), .int (4 * 2 ^ k), .int (5 * 2 ^ k), .int (6 * 2 ^ k), .int (7 * 2 ^ k)]) XA = some (.lst ((List.range 8).map fun (j : Nat) => V.int ((j : Int) * 2 ^ k))) := by rw [upd_same, el]
      generalize upd H2 XA (.lst [V.int 0, .int (2 ^ k), .int (2 * 2 ^ k), .int (3 * 2 ^ k), .int (4 * 2 ^ k), .int (5 * 2 ^ k), .int (6 * 2 ^ k), .int (7 * 2 ^ k)]) = H3 at sX eX
      have s3 := s2.trans sX
      clear el
      refine ⟨XA, rfl, ⟨_, .inl (.inl eX)⟩, for_list (K := K) (a := XA) (xs := (List.range 8).map fun (j : Nat) => V.int ((j : Int) * 2 ^ k)) (fun j σ H' => ∃ (y6 y7 y8 : Option V), σ = [some (.str (nmS c)), some (.str (nmS d)), some (.int (k : Int)), some (.bl g), some (.int ((k + (i + 1) : Nat) : Int)), some (.int (2 ^ k)), y6, y7, y8] ∧ Same H3 H' ∧ ∀ u : Nat, u < j → (u : Int) < 2 ^ (i + 1) → fdW c d g (i + 1) u = false)
        ⟨_, _, _, rfl, Same.refl H3, fun u z => absurd z (Nat.not_lt_zero u)⟩ (fun j σ H' _ hp => ?_) (fun j x σ H4 hx hp => ?_) (fun σ H4 hp => ?_)⟩
      · obtain ⟨_, _, _, _, s, _⟩ := hp
        exact .inl (.inl (s _ _ eX))
      · obtain ⟨y6, y7, y8, rfl, s4, nj⟩ := hp
        have j8 : j < 8 := by
          have := (List.getElem?_eq_some_iff.mp hx).1
          rwa [List.length_map, List.length_range] at this
        obtain rfl : x = V.int ((j : Int) * 2 ^ k) := by
          rw [List.getElem?_map, List.getElem?_range j8] at hx
          exact (Option.some.inj hx).symm
        have hp := pw_pos k
        have jlt : ((j : Int) * 2 ^ k < 2 ^ (k + (i + 1))) ↔ (j : Int) < 2 ^ (i + 1) := by
          have eN : (2 : Int) ^ (k + (i + 1)) = 2 ^ (i + 1) * 2 ^ k := by rw [Int.pow_add, Int.mul_comm]
          have := scaled_lt (a := (j : Int)) (b := 2 ^ (i + 1)) (q := 2 ^ k) (l := 0) hp
          rw [Int.add_zero, Int.add_zero] at this
          rw [eN]
          exact this
        have nx : ∀ y7 y8 H', Same H4 H' → ((j : Int) < 2 ^ (i + 1) → fdW c d g (i + 1) j = false) → ∃ (y6 y7' y8' : Option V), [some (V.str (nmS c)), some (.str (nmS d)), some (.int (k : Int)), some (.bl g), some (.int ((k + (i + 1) : Nat) : Int)), some (.int (2 ^ k)), some (.int ((j : Int) * 2 ^ k)), y7, y8] = [some (.str (nmS c)), some (.str (nmS d)), some (.int (k : Int)), some (.bl g), some (.int ((k + (i + 1) : Nat) : Int)), some (.int (2 ^ k)), y6, y7', y8'] ∧ Same H3 H' ∧ ∀ u : Nat, u < j + 1 → (u : Int) < 2 ^ (i + 1) → fdW c d g (i + 1) u = false := fun y7 y8 H' s' z => ⟨_, _, _, rfl, s4.trans s', fun u hu lu => by
          by_cases e : u = j
          · subst e
            exact z lu
          · exact nj u (by omega) lu⟩
        refine ⟨.int ((j : Int) * 2 ^ k), rfl, .int ((k + (i + 1) : Nat) : Int), rfl, k + (i + 1), rfl, by omega, _, _, rfl, rfl, _, rfl, ite2 (fun e => ?_) (fun e => nx _ _ _ (Same.refl H4) fun z => absurd (decide_eq_true (jlt.mpr z)) e)⟩
        have jl := jlt.mp (of_decide_eq_true e)
        refine ⟨.str (nmS c), rfl, .int k, rfl, .int ((k + (i + 1) : Nat) : Int), rfl, .int ((j : Int) * 2 ^ k), rfl, c, k, k + (i + 1), (j : Int) * 2 ^ k, rfl, hk, by omega, fun H5 s5 => ⟨.str (nmS d), rfl, .int k, rfl, .int ((k + (i + 1) : Nat) : Int), rfl, .int ((j : Int) * 2 ^ k), rfl, d, k, k + (i + 1), (j : Int) * 2 ^ k, rfl, hk, by omega, fun H6 s6 => ⟨_, _, rfl, ?_⟩⟩⟩
        have ec := cf_at (c := c) (k := k) (show 1 ≤ i + 1 by omega) jl
        have ed := cf_at (c := d) (k := k) (show 1 ≤ i + 1 by omega) jl
        have cmp : ∀ a b : Int, a * 2 ^ k < b * 2 ^ k ↔ a < b := fun a b => by
          have := scaled_lt (a := a) (b := b) (q := 2 ^ k) (l := 0) hp
          rwa [Int.add_zero, Int.add_zero] at this
        rw [ec, ed]
        have hit : fdW c d g (i + 1) j = true → Q (.int ((k + (i + 1) : Nat) : Int)) H6 := fun z => by
          have y := df_some jl z
          have lv : lwW c d g = i + 1 := by
            unfold lwW
            rcases (show i = 0 ∨ i = 1 ∨ i = 2 by omega) with rfl | rfl | rfl
            · rw [if_pos y]
            · rw [if_neg (no 1 (by decide) (by decide)), if_pos y]
            · rw [if_neg (no 1 (by decide) (by decide)), if_neg (no 2 (by decide) (by decide)), if_pos y]
          have : lwV c d g k = ((k + (i + 1) : Nat) : Int) := by
            unfold lwV
            rw [lv, if_neg (by omega)]
          rw [← this]
          exact q H6 (((((sW.trans s3).trans s4).trans s5)).trans s6)
        refine ⟨.int _, rfl, .int _, rfl, _, _, rfl, rfl, _, rfl, ite2 (fun e1 => ?_) (fun e1 => ?_)⟩
        · refine ⟨.int _, rfl, hit ?_⟩
          unfold fdW
          rw [decide_eq_true ((cmp _ _).mp (of_decide_eq_true e1))]
          rfl
        have n1 : ¬ fW d (i + 1) j < fW c (i + 1) j := fun z => e1 (decide_eq_true ((cmp _ _).mpr z))
        refine ⟨.int _, rfl, .int _, rfl, _, _, rfl, rfl, _, rfl, ite2 (fun e2 => ?_) (fun e2 => nx _ _ _ (s5.trans s6) fun _ => ?_)⟩
        · have l2 := (cmp _ _).mp (of_decide_eq_true e2)
          refine ⟨.bl g, rfl, g, rfl, ?_⟩
          cases g
          · refine ⟨.int _, rfl, hit ?_⟩
            unfold fdW
            rw [decide_eq_true l2]
            cases decide (fW d (i + 1) (j : Int) < fW c (i + 1) (j : Int)) <;> rfl
          · refine nx _ _ _ (s5.trans s6) fun _ => ?_
            unfold fdW
            rw [decide_eq_false n1]
            rfl
        · unfold fdW
          rw [decide_eq_false n1, decide_eq_false (fun z => e2 (decide_eq_true ((cmp _ _).mpr z)))]
          cases g <;> rfl
      · obtain ⟨y6, y7, y8, rfl, s4, nj⟩ := hp
        refine ⟨_, _, _, _, _, rfl, s3.trans s4, fun v v1 vi => ?_⟩
        by_cases e : v = i + 1
        · subst e
          refine df_none fun u lu => nj u ?_ lu
          have l8 : (2 : Int) ^ (i + 1) ≤ 8 := by
            rcases (show i = 0 ∨ i = 1 ∨ i = 2 by omega) with rfl | rfl | rfl <;> decide
          show u < 8
          omega
        · exact no v v1 (by omega)
    · obtain ⟨y4, y5, y6, y7, y8, rfl, s2, no⟩ := hp
      have : lwV c d g k = 0 := by
        unfold lwV lwW
        rw [if_neg (no 1 (by decide) (show 1 ≤ 3 by decide)), if_neg (no 2 (by decide) (show 2 ≤ 3 by decide)), if_neg (no 3 (by decide) (show 3 ≤ 3 by decide)), if_pos rfl]
      show Q (.int 0) H2
      rw [← this]
      exact q H2 (sW.trans s2)
def rEqL0 : R2 := fun x y H Q => ∃ (a b : Addr) (xs : List V), x = .ref a ∧ y = .ref b ∧ H a = some (.lst xs) ∧ H b = some (.lst []) ∧ Q (.bl xs.isEmpty) H
theorem op_eqL0 {X : Cx} (hu : X.A.units + 64 < cLine) : OpR X (compareOp .Eq) rEqL0 := by
  intro pins s σ H x y v u Q I rx ry h
  obtain ⟨a, b, xs, rfl, rfl, ea, eb, q⟩ := h
  cases rx
  cases ry
  obtain ⟨i1, rv1, h1, _⟩ := I.list (.inl (.inl ea))
  obtain ⟨i2, rv2, h2, _⟩ := I.list (.inl (.inl eb))
  cases rv2
  cases rv1 with
  | nil =>
    have r := SeqAt.RcAt.lists (A := X.A) (s := s) (e := fun _ => true) h1.isList h2.isList rfl (by omega) (fun j j1 _ => absurd j1 (by simp))
    exact r _ _ _ _ ⟨.bl true, H, I, rfl, q⟩
  | cons r rs =>
    have r := SeqAt.RcAt.lists_lengths (A := X.A) (s := s) h1.isList h2.isList (by simp) (by omega)
    exact r _ _ _ _ ⟨.bl false, H, I, rfl, q⟩
def spBkw : Sp := fun vs H Q _ => ∃ (c : Nm) (k n : Nat) (y : Int), vs = [.str (nmS c), .int (k : Int), .int (n : Int), .int y] ∧ k ≤ 5 ∧ n ≤ 1000 ∧ ∀ H' r, Same H H' → GB n (rowD c 1 k 0) ((outN c 1 k 0 : Nat) : Int) y r → Q r H'
set_option maxHeartbeats 4000000 in
theorem ok_bkw {f fT fW' : Addr} {fd fdT fdW' : FuncData} {k : Nat} (F : Fun K "_law_back" "_law_back" s_law_back f fd)
    (GT : FnOk P w K mg base CX0 (k + 1) fT fdT ["width"] spTop) (kT : PySem.W.keepIn K (.ref fT) = true) (bT : Binds K fdT ["width"] []) (gT : mg "_law_top" = some (.ref fT))
    (GW : FnOk P w K mg base CX0 (k + 2) fW' fdW' ["word", "k", "width", "x"] spWo) (kW : PySem.W.keepIn K (.ref fW') = true) (bW : Binds K fdW' ["word", "k", "width", "x"] []) (gW : mg "_law_worth" = some (.ref fW'))
    (mI : mg "int" = none) (mm : mg "min" = none) : FnOk P w K mg base CX0 (k + 3) f fd ["word", "k", "width", "y"] spBkw := by
  refine F.ok sc_law_back (fun vs H Q E h => ?_) (fun cdv A outer s H vs Q E hr h => ?_)
  · obtain ⟨c, k, n, y, rfl, _⟩ := h
    rfl
  · obtain ⟨c, k, n, y, rfl, hk, hn, q⟩ := h
    have nd := sc_law_back.nd
    have hu := hu_of hr
    have R1 := hr.mono (show _ ≤ _ from Nat.le_succ _)
    refine ⟨_, pss_cons (ps_set (i := 4) nd rfl (.inl rfl) (pe_call GT R1 (by rfl) gT kT bT .nil pass0 (pa_cons (pv 1) pa_nil)))
    (pss_cons (ps_set (i := 5) nd rfl (.inr rfl) (pe_call GT R1 (by rfl) gT kT bT .nil pass0 (pa_cons (pv 2) pa_nil)))
    (pss_cons (ps_set (i := 6) nd rfl (.inl rfl) (pe_lst (pa_cons (pv 3) (pa_cons (pe_op op_sub (pv 3) (pv 4)) (pa_cons (pe_op op_mod (pe_op op_sub (pv 3) (pv 4)) (pv 5)) (pa_cons (pe_op op_mod (pe_op op_add (pv 3) (pv 4)) (pv 5)) pa_nil))))))
    (pss_cons (ps_setLc (i := 6) (own := [("x", 7)]) (g := gName 7) (by rfl) nd rfl rfl (sw_true rfl rfl rfl (by decide +kernel)) (pi_list (pv 6)) (blkOk_by (own := [("x", 7)]) (N := N_law_back) (sc := defScope s_law_back) (by decide +kernel)) (fun _ _ _ _ _ => pg_name (i := 7) nd rfl (.inl rfl)) (fun _ _ _ _ _ => pts_one (PW.pt (pw_and (pt_chain op_le op_lt pe_int (pv 7) (pv 5)) (pw_and1 (pt_cmpR op_eq (pe_call GW hr (by rfl) gW kW bW .nil pass0 (pa_cons (pv 0) (pa_cons (pv 1) (pa_cons (pv 2) (pa_cons (pv 7) pa_nil))))) (pv 3) (nomark _)))))) (fun _ _ _ _ _ => pv 7))
    (pss_one (ps_ret (pe_ix ix_list (pe_lst (pa_cons (pe_callB (cr_min rfl) (by rfl) mm (by decide +kernel) (pa_cons (pe_op op_cat (pv 6) (pe_lst (pa_cons (pv 5) pa_nil))) pa_nil)) (pa_cons pe_non pa_nil))) (pe_callTy call_int1 (by rfl) mI (by decide +kernel) (pa_cons (pe_cmpR (op_eqL0 hr.units) (pv 6) (pe_lst pa_nil) (nomark _)) pa_nil)) (fun _ _ => rfl))))))), ?_⟩
    refine ⟨.int k, rfl, k, rfl, by omega, ?_⟩
    refine ⟨.int n, rfl, n, rfl, hn, ?_⟩
    have hpn := pw_pos n
    refine ⟨.int y, rfl, .int y, rfl, .int (2 ^ k), rfl, _, _, rfl, rfl, .int y, rfl, .int (2 ^ k), rfl, _, _, rfl, rfl, .int (2 ^ n), rfl, _, _, rfl, rfl, hpn, .int y, rfl, .int (2 ^ k), rfl, _, _, rfl, rfl, .int (2 ^ n), rfl, _, _, rfl, rfl, hpn, (by show 4 ≤ sizeLine; decide), fun CA hCA => ?_⟩
    have hpk := pw_pos k
    have eC : upd H CA (.lst ((candL k n y).map V.int)) CA = some (.lst ((candL k n y).map V.int)) := upd_same
    have sC := same_new (o := .lst ((candL k n y).map V.int)) hCA
    change gName 6 (V.ref CA) _ (upd H CA (.lst ((candL k n y).map V.int))) _
    generalize upd H CA (.lst ((candL k n y).map V.int)) = H1 at sC eC
    refine ⟨.ref CA, rfl, CA, rfl, ⟨_, .inl (.inl eC)⟩, fun D hD => ?_⟩
    have nCD : CA ≠ D := ne_of_none eC hD
    refine lc_list (K := K) (a := CA) (xs := (candL k n y).map V.int) (fun i H' => H' D = some (.lst ((((candL k n y).take i).filter (isBk c k n y)).map V.int)) ∧ ∀ x u, x ≠ D → H1 x = some u → H' x = some u)
      ⟨upd_same, fun x u n e => by rw [upd_ne n]; exact e⟩ (fun i H' _ hp => .inl (.inl (hp.2 _ _ nCD eC))) (fun i x H' hx hp => ?_) (fun H' hp => ?_)
    · obtain ⟨eD, kD⟩ := hp
      obtain ⟨z, hz, rfl⟩ : ∃ z, (candL k n y)[i]? = some z ∧ x = V.int z := by
        rw [List.getElem?_map] at hx
        obtain ⟨z, h1, h2⟩ := Option.map_eq_some_iff.mp hx
        exact ⟨z, h1, h2.symm⟩
      have i4 : i < 4 := (List.getElem?_eq_some_iff.mp hz).1
      have fl : ((candL k n y).take i).filter (isBk c k n y) = ((candL k n y).take i).filter (isBk c k n y) := rfl
      have ft : ((candL k n y).take (i + 1)).filter (isBk c k n y) = ((candL k n y).take i).filter (isBk c k n y) ++ (if isBk c k n y z = true then [z] else []) := by
        rw [List.take_add_one, hz, Option.toList_some, List.filter_append]
        congr 1
        rw [List.filter_cons, List.filter_nil]
      have stay : isBk c k n y z = false → ∀ H'', Same H' H'' → (H'' D = some (.lst ((((candL k n y).take (i + 1)).filter (isBk c k n y)).map V.int)) ∧ ∀ x u, x ≠ D → H1 x = some u → H'' x = some u) := fun h H'' s' => by
        rw [ft, if_neg (by rw [h]; decide), List.append_nil]
        exact ⟨s' _ _ eD, fun x u n e => s' _ _ (kD x u n e)⟩
      refine ⟨rfl, ?_⟩
      refine ⟨.int z, rfl, 0, z, rfl, rfl, _, rfl, ite2 (fun e0 => ?_) (fun e0 => ?_)⟩
      · have e0 := of_decide_eq_true e0
        refine ⟨.int (2 ^ n), rfl, z, 2 ^ n, rfl, rfl, _, rfl, ite2 (fun e1 => ?_) (fun e1 => ?_)⟩
        · have e1 := of_decide_eq_true e1
          refine ⟨.str (nmS c), rfl, .int k, rfl, .int n, rfl, .int z, rfl, c, k, n, z, rfl, hk, hn, fun H'' s'' => ⟨.int y, rfl, rfl, _, rfl, ite2 (fun e2 => ?_) (fun e2 => ?_)⟩⟩
          · have e2 := V.int.inj (of_decide_eq_true e2)
            have hb : isBk c k n y z = true := by
              unfold isBk
              rw [decide_eq_true ⟨e0, e1⟩, decide_eq_true e2]
              rfl
            have l4 : ((((candL k n y).take i).filter (isBk c k n y)).map V.int).length < sizeLine := by
              rw [List.length_map, sizeLine_eq]
              have h1 := List.length_filter_le (isBk c k n y) ((candL k n y).take i)
              have h2 : ((candL k n y).take i).length ≤ 4 := by rw [List.length_take]; exact Nat.min_le_right _ _
              omega
            refine ⟨.int z, rfl, _, s'' _ _ eD, l4, by rw [upd_same, ft, if_pos hb, List.map_append]; rfl, fun x u n e => by rw [upd_ne n]; exact s'' _ _ (kD x u n e)⟩
          · refine stay ?_ H'' s''
            unfold isBk
            rw [decide_eq_false (fun z2 => e2 (decide_eq_true (by rw [z2])) : ¬ cfW c k n z = y), Bool.and_false]
        · refine stay ?_ H' (Same.refl H')
          unfold isBk
          rw [decide_eq_false (fun z2 => e1 (decide_eq_true z2.2) : ¬ (0 ≤ z ∧ z < 2 ^ n)), Bool.false_and]
      · refine ⟨_, rfl, stay ?_ H' (Same.refl H')⟩
        unfold isBk
        rw [decide_eq_false (fun z2 => e0 (decide_eq_true z2.1) : ¬ (0 ≤ z ∧ z < 2 ^ n)), Bool.false_and]
    · obtain ⟨eD, kD⟩ := hp
      rw [List.length_map, List.take_length] at eD
      change H' D = some (.lst ((bkL c k n y).map V.int)) at eD
      have s1 : Same H H' := fun x u e => kD _ _ (ne_of_none (sC _ _ e) hD) (sC _ _ e)
      have bl : (bkL c k n y).length ≤ 4 := Nat.le_trans (List.length_filter_le _ _) (Nat.le_refl 4)
      refine ⟨.ref D, rfl, .int (2 ^ n), rfl, (by show 1 ≤ sizeLine; decide), fun T1 hT1 => ?_⟩
      have sT1 := same_new (o := .lst [V.int (2 ^ n)]) hT1
      have eT1 : upd H' T1 (.lst [V.int (2 ^ n)]) T1 = some (.lst [V.int (2 ^ n)]) := upd_same
      generalize upd H' T1 (.lst [V.int (2 ^ n)]) = H2 at sT1 eT1
      refine ⟨D, T1, _, _, rfl, rfl, sT1 _ _ eD, eT1, by rw [List.length_map, sizeLine_eq]; show _ + 1 ≤ _; omega, fun T2 hT2 => ?_⟩
      have sT2 := same_new (o := .lst ((bkL c k n y).map V.int ++ [V.int (2 ^ n)])) hT2
      have eT2 : upd H2 T2 (.lst ((bkL c k n y).map V.int ++ [V.int (2 ^ n)])) T2 = some (.lst ((bkL c k n y ++ [2 ^ n]).map V.int)) := by rw [upd_same, List.map_append]; rfl
      generalize upd H2 T2 (.lst ((bkL c k n y).map V.int ++ [V.int (2 ^ n)])) = H3 at sT2 eT2
      refine ⟨T2, bkL c k n y ++ [2 ^ n], rfl, .inl (.inl eT2), by rw [List.length_append]; show 0 < _ + 1; omega, fun mn m1 m2 => ?_⟩
      refine ⟨(by show 2 ≤ sizeLine; decide), fun T3 hT3 => ?_⟩
      have sT3 := same_new (o := .lst [V.int mn, .non]) hT3
      have eT3 : upd H3 T3 (.lst [V.int mn, .non]) T3 = some (.lst [V.int mn, .non]) := upd_same
      generalize upd H3 T3 (.lst [V.int mn, .non]) = H4 at sT3 eT3
      refine ⟨.ref D, rfl, (by show 0 ≤ sizeLine; decide), fun T4 hT4 => ?_⟩
      have sT4 := same_new (o := .lst []) hT4
      have s34 := (sT1.trans sT2).trans sT3
      refine ⟨D, T4, _, rfl, rfl, sT4 _ _ (s34 _ _ eD), upd_same, .inr ⟨_, rfl, ?_⟩⟩
      obtain ⟨g1, g2⟩ := bk_gb (c := c) (k := k) (n := n) (y := y) hk
      have sE := ((s1.trans s34).trans sT4)
      cases hb : bkL c k n y with
      | nil => exact ⟨T3, _, 1, .non, rfl, rfl, .inl (.inl (sT4 _ _ eT3)), rfl, q _ _ sE (g1 hb)⟩
      | cons u l => exact ⟨T3, _, 0, .int mn, rfl, rfl, .inl (.inl (sT4 _ _ eT3)), rfl, q _ _ sE (g2 (by rw [hb]; simp) mn m1 m2)⟩
def w0S : Bool → Str
  | false => "alike"
  | true => "most"
def w1S : Bool → Str
  | false => "apart"
  | true => "greater"
/-- what a function told of two rows -/
def Fnd (H : Hp) (T : Addr) (c d : Nm) (m k a : Nat) (g : Bool) : Prop :=
  (lwW c d g = 0 ∧ ∃ M : Addr, H T = some (.tup [.str (w0S g), .ref M])) ∨
  (lwW c d g ≠ 0 ∧ ∃ (L : Addr) (ws : List Int), H T = some (.tup [.str (w1S g), .int ((k + lwW c d g : Nat) : Int), .ref L]) ∧ H L = some (.lst (ws.map V.int)) ∧ ws.length = m ∧ cfW c k (k + lwW c d g) (ws.getD a 0) ≠ cfW d k (k + lwW c d g) (ws.getD a 0) ∧ (g = true → ¬ cfW c k (k + lwW c d g) (ws.getD a 0) < cfW d k (k + lwW c d g) (ws.getD a 0)))
theorem Fnd.same {H H' : Hp} {T : Addr} {c d : Nm} {m k a : Nat} {g : Bool} (h : Fnd H T c d m k a g) (s : Same H H') : Fnd H' T c d m k a g := by
  rcases h with ⟨h1, M, h2⟩ | ⟨h1, L, ws, h2, h3, h4⟩
  · exact .inl ⟨h1, M, s _ _ h2⟩
  · exact .inr ⟨h1, L, ws, s _ _ h2, s _ _ h3, h4⟩
section pr51
variable {c d : Nm} {m k a : Nat} {R1 R2 cP : Addr} {H : Hp} {Q : VK} {E : XK} (m1 : 1 ≤ m) (m3 : m ≤ 3) (hk : k ≤ 5) (ha : a < m)
include m1 m3 hk ha
theorem al_fnd (h1 : RowAt H R1 m (rowD c m k a) ((outN c m k a : Nat) : Int)) (h2 : RowAt H R2 m (rowD d m k a) ((outN d m k a : Nat) : Int)) (q : ∀ H' T, Same H H' → Fnd H' T c d m k a false → Q (.ref T) H') : spAl cP [.ref R1, .ref R2] H Q E := by
  refine ⟨R1, R2, m, m, _, _, _, _, rfl, h1, h2, row51_ok m1 m3 hk ha, row51_ok m1 m3 hk ha, fun _ => ⟨fun H' T M as ps wy s _ _ eT _ _ hb _ _ => ?_, fun H' T L ps wy cu p bs s _ _ eT eL hb hq hbs hne _ _ => ?_⟩, fun z => absurd rfl z⟩
  · exact q H' T s (.inl ⟨al_never m1 m3 hk ha hb, M, eT⟩)
  · obtain ⟨a1, a2, a3, a4⟩ := al_apart m1 m3 hk ha hb hq hbs hne
    refine q H' T s (.inr ⟨a1, L, _, ?_, eL, wofL_len _ _, ?_, fun z => nomatch z⟩)
    · rw [eT, a2]
      rfl
    · rw [← a2]
      exact a4
theorem am_fnd (h1 : RowAt H R1 m (rowD c m k a) ((outN c m k a : Nat) : Int)) (h2 : RowAt H R2 m (rowD d m k a) ((outN d m k a : Nat) : Int)) (q : ∀ H' T, Same H H' → Fnd H' T c d m k a true → Q (.ref T) H') : spAm cP [.ref R1, .ref R2] H Q E := by
  refine ⟨R1, R2, m, m, _, _, _, _, rfl, h1, h2, row51_ok m1 m3 hk ha, row51_ok m1 m3 hk ha, fun _ => ⟨fun H' T M as ps wy s _ _ eT _ _ hb _ _ => ?_, fun H' T L ps wy cu p bs s _ _ eT eL hb hq hbs hne _ => ?_⟩, fun z => absurd rfl z⟩
  · exact q H' T s (.inl ⟨am_most m1 m3 hk ha hb, M, eT⟩)
  · obtain ⟨a1, a2, a3, a4⟩ := am_greater m1 m3 hk ha hb hq hbs hne
    refine q H' T s (.inr ⟨a1, L, _, ?_, eL, wofL_len _ _, ?_, fun _ => ?_⟩)
    · rw [eT, a2]
      rfl
    · rw [← a2]
      exact Int.ne_of_gt a4
    · rw [← a2]
      exact fun z => Int.lt_irrefl _ (Int.lt_trans a4 z)
end pr51
theorem lw_le3 (c d : Nm) (g : Bool) : lwW c d g ≤ 3 := by
  unfold lwW
  split
  · decide
  · split
    · decide
    · split <;> decide
theorem conv51 {Q : List V → Hp → Prop} {s0 : L2.St} {h0 : Hp} (h : Q [] h0) : tNil s0 h0 Q := h
def spPq : Sp := fun vs H Q _ => ∃ (RS NS R1 R2 : Addr) (m k a : Nat) (c d : Nm), vs = [.ref RS, .ref NS, .int (k : Int), .int (a : Int)] ∧ 1 ≤ m ∧ m ≤ 3 ∧ k ≤ 5 ∧ a < m ∧ H RS = some (.lst [.ref R1, .ref R2]) ∧ H NS = some (.lst [.str (nmS c), .str (nmS d)]) ∧
  RowAt H R1 m (rowD c m k a) ((outN c m k a : Nat) : Int) ∧ RowAt H R2 m (rowD d m k a) ((outN d m k a : Nat) : Int) ∧ ∀ H', Same H H' → Q (.bl true) H'
set_option maxHeartbeats 4000000 in
theorem ok_pq {f fA fM fL fW' cP cQ : Addr} {fd fdA fdM fdL fdW' : FuncData} {k : Nat} (F : Fun K "_law_pair_right" "_law_pair_right" s_law_pair_right f fd)
    (GA : FnOk P w K mg base (L2.CX P w) (k + 6) fA fdA ["row", "other"] (spAl cP)) (kA : PySem.W.keepIn K (.ref fA) = true) (bA : Binds K fdA ["row", "other"] []) (gA : mg "alike" = some (.ref fA))
    (GM : FnOk P w K mg base (L2.CX P w) (k + 6) fM fdM ["row", "other"] (spAm cQ)) (kM : PySem.W.keepIn K (.ref fM) = true) (bM : Binds K fdM ["row", "other"] []) (gM : mg "at_most" = some (.ref fM))
    (GL : FnOk P w K mg base CX0 (k + 3) fL fdL ["one", "other", "k", "greater"] spLq) (kL : PySem.W.keepIn K (.ref fL) = true) (bL : Binds K fdL ["one", "other", "k", "greater"] []) (gL : mg "_law_least_width" = some (.ref fL))
    (GW : FnOk P w K mg base CX0 (k + 2) fW' fdW' ["word", "k", "width", "x"] spWo) (kW : PySem.W.keepIn K (.ref fW') = true) (bW : Binds K fdW' ["word", "k", "width", "x"] []) (gW : mg "_law_worth" = some (.ref fW'))
    (mz : mg "zip" = none) (mI : mg "int" = none) (mn : mg "len" = none) : FnOk P w K mg base CX0 (k + 7) f fd ["rows", "names", "k", "at"] spPq := by
  refine F.ok sc_law_pair_right (fun vs H Q E h => ?_) (fun cdv A outer s H vs Q E hr h => ?_)
  · obtain ⟨RS, NS, R1, R2, m, k, a, c, d, rfl, _⟩ := h
    rfl
  · obtain ⟨RS, NS, R1, R2, m, k', a, c, d, rfl, m1, m3, hk, ha, eRS, eNS, hr1, hr2, q⟩ := h
    have nd := sc_law_pair_right.nd
    have R3 := hr.mono (show k + 3 ≤ k + 6 by omega)
    have R2' := hr.mono (show k + 2 ≤ k + 6 by omega)
    refine ⟨_, pss_cons (ps_set (i := 4) nd rfl (.inl rfl) (pe_lst (pa_cons (pe_call GA hr (by rfl) gA kA bA .nil passL (pa_cons (pe_ix ix_list (pv 0) pe_int (fun _ _ => rfl)) (pa_cons (pe_ix ix_list (pv 0) pe_int (fun _ _ => rfl)) pa_nil))) (pa_cons (pe_call GM hr (by rfl) gM kM bM .nil passL (pa_cons (pe_ix ix_list (pv 0) pe_int (fun _ _ => rfl)) (pa_cons (pe_ix ix_list (pv 0) pe_int (fun _ _ => rfl)) pa_nil))) pa_nil))))
    (pss_cons (ps_for PassesOwn.never rfl (pi_zip3 (by rfl) mz (pa_cons (pv 4) (pa_cons (pe_lst (pa_cons (pe_tup (pa_cons pe_str (pa_cons pe_str pa_nil))) (pa_cons (pe_tup (pa_cons pe_str (pa_cons pe_str pa_nil))) pa_nil))) (pa_cons (pe_lst (pa_cons pe_bl (pa_cons pe_bl pa_nil))) pa_nil)))) (pg_tup rfl (pgs_cons (pg_name (i := 5) nd rfl (.inr rfl)) (pgs_cons (pg_name (i := 6) nd rfl (.inl rfl)) (pgs_cons (pg_name (i := 7) nd rfl (.inl rfl)) pgs_nil))))
      (pss_cons (ps_set (i := 8) nd rfl (.inr rfl) (pe_call GL R3 (by rfl) gL kL bL .nil pass0 (pa_cons (pe_ix ix_list (pv 1) pe_int (fun _ _ => rfl)) (pa_cons (pe_ix ix_list (pv 1) pe_int (fun _ _ => rfl)) (pa_cons (pv 2) (pa_cons (pv 7) pa_nil))))))
      (pss_cons (ps_if (pt_cmpR op_ne (pe_ix ix_tup (pv 5) pe_int (fun _ _ => rfl)) (pe_ix ix_tup (pv 6) (pe_callTy call_int1 (by rfl) mI (by decide +kernel) (pa_cons (pe_cmpR op_gt (pv 8) pe_int (nomark _)) pa_nil)) (fun _ _ => rfl)) (nomark _)) (pss_one (ps_ret pe_bl)) pss_nil)
      (pss_one (ps_if (pt_cmpR op_gt (pv 8) pe_int (nomark _))
        (pss_cons (ps_if (PW.pt (pw_or (pt_cmpR op_ne (pe_ix ix_tup (pv 5) pe_int (fun _ _ => rfl)) (pv 8) (nomark _)) (pw_or (pt_cmpR op_ne (pe_callB call_len_seq (by rfl) mn PySem.boot_len (pa_cons (pv 5) pa_nil)) pe_int (nomark _)) (pw_or1 (pt_cmpR op_ne (pe_callB call_len_seq (by rfl) mn PySem.boot_len (pa_cons (pe_ix ix_tup (pv 5) pe_int (fun _ _ => rfl)) pa_nil)) (pe_ix ix_tup (pe_ix ix_list (pv 0) pe_int (fun _ _ => rfl)) pe_int (fun _ _ => rfl)) (nomark _)))))) (pss_one (ps_ret pe_bl)) pss_nil)
        (pss_cons (ps_asg (pe_lc (own := [("name", 11)]) (g := gName 11) (by rfl) nd (pi_list (pv 1)) (blkOk_by (own := [("name", 11)]) (N := N_law_pair_right) (sc := defScope s_law_pair_right) (by decide +kernel)) (fun _ _ _ _ _ => pg_name (i := 11) nd rfl (.inl rfl)) (fun _ _ _ _ _ => pts_nil) (fun _ _ _ _ _ => pe_call GW R2' (by rfl) gW kW bW .nil pass0 (pa_cons (pv 11) (pa_cons (pv 2) (pa_cons (pv 8) (pa_cons (pe_ix (r := rIxL K) ix_list (pe_ix (r := rIxT K) ix_tup (pv 5) pe_int (fun _ _ => rfl)) (pv 3) (fun _ _ => rfl)) pa_nil)))))) (pg_lst rfl (pgs_cons (pg_name (i := 9) nd rfl (.inl rfl)) (pgs_cons (pg_name (i := 10) nd rfl (.inl rfl)) pgs_nil))))
        (pss_one (ps_if (PW.pt (pw_or (PW.pt (pw_and (pt_cmpR op_lt (pv 9) (pv 10) (nomark _)) (pw_and1 (pt_val (pv 7))))) (pw_or1 (pt_cmpR op_eq (pv 9) (pv 10) (nomark _))))) (pss_one (ps_ret pe_bl)) pss_nil))))
        pss_nil)))))
    (pss_one (ps_ret pe_bl))), ?_⟩
    refine ⟨.ref RS, rfl, RS, _, 0, .ref R1, rfl, rfl, .inl (.inl eRS), rfl, .ref RS, rfl, RS, _, 1, .ref R2, rfl, rfl, .inl (.inl eRS), rfl, ?_⟩
    refine conv51 ?_
    refine al_fnd m1 m3 hk ha hr1 hr2 fun H1 T1 s1 f1 => ?_
    refine ⟨.ref RS, rfl, RS, _, 0, .ref R1, rfl, rfl, .inl (.inl (s1 _ _ eRS)), rfl, .ref RS, rfl, RS, _, 1, .ref R2, rfl, rfl, .inl (.inl (s1 _ _ eRS)), rfl, ?_⟩
    refine conv51 ?_
    refine am_fnd m1 m3 hk ha ((Same.tups s1).row hr1) ((Same.tups s1).row hr2) fun H2 T2 s2 f2 => ?_
    refine ⟨(by show 2 ≤ sizeLine; decide), fun FL hFL => ?_⟩
    have s3 := same_new (o := .lst [.ref T1, .ref T2]) hFL
    have eFL : upd H2 FL (.lst [.ref T1, .ref T2]) FL = some (.lst [.ref T1, .ref T2]) := upd_same
    generalize upd H2 FL (.lst [.ref T1, .ref T2]) = H3 at s3 eFL
    refine ⟨.ref FL, rfl, (by show 2 ≤ sizeLine; decide), fun W1 hW1 => ?_⟩
    have s4 := same_new (o := .tup [V.str "alike", .str "apart"]) hW1
    have eW1 : upd H3 W1 (.tup [V.str "alike", .str "apart"]) W1 = some (.tup [.str (w0S false), .str (w1S false)]) := upd_same
    generalize upd H3 W1 (.tup [V.str "alike", .str "apart"]) = H4 at s4 eW1
    refine ⟨(by show 2 ≤ sizeLine; decide), fun W2 hW2 => ?_⟩
    have s5 := same_new (o := .tup [V.str "most", .str "greater"]) hW2
    have eW2 : upd H4 W2 (.tup [V.str "most", .str "greater"]) W2 = some (.tup [.str (w0S true), .str (w1S true)]) := upd_same
    generalize upd H4 W2 (.tup [V.str "most", .str "greater"]) = H5 at s5 eW2
    refine ⟨(by show 2 ≤ sizeLine; decide), fun WL hWL => ?_⟩
    have s6 := same_new (o := .lst [.ref W1, .ref W2]) hWL
    have eWL : upd H5 WL (.lst [.ref W1, .ref W2]) WL = some (.lst [.ref W1, .ref W2]) := upd_same
    generalize upd H5 WL (.lst [.ref W1, .ref W2]) = H6 at s6 eWL
    refine ⟨(by show 2 ≤ sizeLine; decide), fun GA' hGA => ?_⟩
    have s7 := same_new (o := .lst [V.bl false, .bl true]) hGA
    have eGA : upd H6 GA' (.lst [V.bl false, .bl true]) GA' = some (.lst [V.bl false, .bl true]) := upd_same
    generalize upd H6 GA' (.lst [V.bl false, .bl true]) = H7 at s7 eGA
    have s37 := ((s4.trans s5).trans s6).trans s7
    have s07 := ((s1.trans s2).trans s3).trans s37
    have F1 := f1.same ((s2.trans s3).trans s37)
    have F2 := f2.same (s3.trans s37)
    have eW1 := ((s5.trans s6).trans s7) _ _ eW1
    have eW2 := (s6.trans s7) _ _ eW2
    have eWL := s7 _ _ eWL
    have eFL := s37 _ _ eFL
    have eNS7 := s07 _ _ eNS
    have eRS7 := s07 _ _ eRS
    have r7 := (Same.tups s07).row hr1
    obtain ⟨D1, rs1, u1, u2, u3⟩ := id r7
    clear f1 f2 s1 s2 s3 s4 s5 s6 s7 s37 hFL hW1 hW2 hWL hGA
    refine ⟨FL, WL, GA', _, _, _, rfl, .inl (.inl eFL), .inl (.inl eWL), .inl (.inl eGA), for_it (walk_zip3 (K := K) (a := FL) (b := WL) (d := GA') (xs := [.ref T1, .ref T2]) (ys := [.ref W1, .ref W2]) (us := [.bl false, .bl true]) rfl rfl)
      (fun i σ H' => ∃ (y5 y6 y7 y8 y9 y10 y11 : Option V), σ = [some (.ref RS), some (.ref NS), some (.int (k' : Int)), some (.int (a : Int)), some (.ref FL), y5, y6, y7, y8, y9, y10, y11] ∧ Same H7 H')
      ⟨_, _, _, _, _, _, _, rfl, Same.refl H7⟩ (fun i σ H' _ hp => ?_) (fun i x σ H8 H9 hi hp hy => ?_) (fun σ H8 hp => ?_)⟩
    · obtain ⟨_, _, _, _, _, _, _, _, s⟩ := hp
      exact ⟨.inl (.inl (s _ _ eFL)), .inl (.inl (s _ _ eWL)), .inl (.inl (s _ _ eGA))⟩
    · obtain ⟨y5, y6, y7, y8, y9, y10, y11, rfl, s8⟩ := hp
      obtain ⟨T, x1, x2, x3, rfl, hT, rfl, g1, g2, g3⟩ := hy
      obtain ⟨g, Tg, Wg, rfl, rfl, rfl, Fg, eWg⟩ : ∃ g Tg Wg, x1 = .ref Tg ∧ x2 = .ref Wg ∧ x3 = .bl g ∧ Fnd H7 Tg c d m k' a g ∧ H7 Wg = some (.tup [.str (w0S g), .str (w1S g)]) := by
        have i2 : i < 2 := hi
        rcases (show i = 0 ∨ i = 1 by omega) with rfl | rfl
        · exact ⟨false, T1, W1, (Option.some.inj g1).symm, (Option.some.inj g2).symm, (Option.some.inj g3).symm, F1, eW1⟩
        · exact ⟨true, T2, W2, (Option.some.inj g1).symm, (Option.some.inj g2).symm, (Option.some.inj g3).symm, F2, eW2⟩
      clear g1 g2 g3 hi
      have sT := same_new (o := .tup [.ref Tg, .ref Wg, .bl g]) hT
      have eT : upd H8 T (.tup [.ref Tg, .ref Wg, .bl g]) T = some (.tup [.ref Tg, .ref Wg, .bl g]) := upd_same
      generalize upd H8 T (.tup [.ref Tg, .ref Wg, .bl g]) = H9 at sT eT
      have s9 := s8.trans sT
      refine ⟨T, _, rfl, SqT.of eT, rfl, _, _, rfl, _, _, rfl, _, _, rfl, rfl, ?_⟩
      refine ⟨.ref NS, rfl, NS, _, 0, .str (nmS c), rfl, rfl, .inl (.inl (s9 _ _ eNS7)), rfl, .ref NS, rfl, NS, _, 1, .str (nmS d), rfl, rfl, .inl (.inl (s9 _ _ eNS7)), rfl, .int k', rfl, .bl g, rfl, c, d, k', g, rfl, hk, fun HA sA => ?_⟩
      have sA7 := s9.trans sA
      have eWA := sA7 _ _ eWg
      rcases Fg.same sA7 with ⟨l0, M, eTg⟩ | ⟨l0, L, ws, eTg, eL, wl, ne, nl⟩
      · have lv : lwV c d g k' = 0 := by unfold lwV; rw [if_pos l0]
        rw [lv]
        refine ⟨.ref Tg, rfl, Tg, _, 0, .str (w0S g), rfl, rfl, SqT.of eTg, rfl, .ref Wg, rfl, .int 0, rfl, 0, 0, rfl, rfl, .inr ⟨_, rfl, Wg, _, 0, .str (w0S g), rfl, rfl, SqT.of eWA, rfl, rfl, _, rfl, ite2 (fun e => ?_) (fun _ => ?_)⟩⟩
        · exfalso
          rw [decide_eq_true rfl] at e
          cases e
        exact ⟨.int 0, rfl, 0, 0, rfl, rfl, _, rfl, ite2 (fun e => absurd (of_decide_eq_true e) (by decide)) (fun _ => ⟨_, _, _, _, _, _, _, rfl, sA7⟩)⟩
      · have lv : lwV c d g k' = ((k' + lwW c d g : Nat) : Int) := by unfold lwV; rw [if_neg l0]
        rw [lv]
        have l3 := lw_le3 c d g
        obtain ⟨W, hW⟩ : ∃ W, W = k' + lwW c d g := ⟨_, rfl⟩
        rw [← hW] at eTg ne nl ⊢
        have hpos : (0 : Int) < (W : Int) := by omega
        have wl2 : a < ws.length := by omega
        have hat : atI (ws.map V.int) (a : Int) = some (V.int (ws.getD a 0)) := atI_nat (by rw [List.getElem?_map, List.getElem?_eq_getElem wl2, List.getD_eq_getElem?_getD, List.getElem?_eq_getElem wl2]; rfl)
        refine ⟨.ref Tg, rfl, Tg, _, 0, .str (w1S g), rfl, rfl, SqT.of eTg, rfl, .ref Wg, rfl, .int W, rfl, W, 0, rfl, rfl, .inr ⟨_, rfl, Wg, _, 1, .str (w1S g), rfl, congrArg V.int (if_pos (decide_eq_true hpos)), SqT.of eWA, rfl, rfl, _, rfl, ite2 (fun e => ?_) (fun _ => ?_)⟩⟩
        · exfalso
          rw [decide_eq_true rfl] at e
          cases e
        refine ⟨.int W, rfl, W, 0, rfl, rfl, _, rfl, ite2 (fun _ => ?_) (fun e => absurd (decide_eq_true hpos) e)⟩
        refine ⟨.ref Tg, rfl, Tg, _, 1, .int W, rfl, rfl, SqT.of eTg, rfl, .int W, rfl, rfl, _, rfl, ite2 (fun e => ?_) (fun _ => ?_)⟩
        · exfalso
          rw [decide_eq_true rfl] at e
          cases e
        refine ⟨.ref Tg, rfl, Tg, _, rfl, .inr (SqT.of eTg), rfl, _, rfl, ite2 (fun e => ?_) (fun _ => ?_)⟩
        · exfalso
          cases e
        refine ⟨.ref Tg, rfl, Tg, _, 2, .ref L, rfl, rfl, SqT.of eTg, rfl, L, _, rfl, .inl (.inl (.inl eL)), .ref RS, rfl, RS, _, 0, .ref R1, rfl, rfl, .inl (.inl (sA7 _ _ eRS7)), rfl, R1, _, 0, .int m, rfl, rfl, SqT.of (sA7 _ _ u1), rfl, rfl, _, rfl, ite2 (fun e => ?_) (fun _ => ?_)⟩
        · exfalso
          rw [List.length_map, wl, decide_eq_true rfl] at e
          cases e
        have eNSA := sA7 _ _ eNS7
        refine ⟨.ref NS, rfl, NS, rfl, ⟨_, .inl (.inl eNSA)⟩, fun D hD => ?_⟩
        have nND : NS ≠ D := ne_of_none eNSA hD
        have nTD : Tg ≠ D := ne_of_none eTg hD
        have nLD : L ≠ D := ne_of_none eL hD
        refine lc_list (K := K) (a := NS) (xs := [.str (nmS c), .str (nmS d)]) (fun i H' => H' D = some (.lst ((([cfW c k' W (ws.getD a 0), cfW d k' W (ws.getD a 0)] : List Int).take i).map V.int)) ∧ ∀ x u, x ≠ D → HA x = some u → H' x = some u)
          ⟨upd_same, fun x u n e => by rw [upd_ne n]; exact e⟩ (fun i H' _ hp => .inl (.inl (hp.2 _ _ nND eNSA))) (fun i x H' hx hp => ?_) (fun H' hp => ?_)
        · obtain ⟨eD, kD⟩ := hp
          obtain ⟨cc, rfl, hcc⟩ : ∃ cc : Nm, x = .str (nmS cc) ∧ (([cfW c k' W (ws.getD a 0), cfW d k' W (ws.getD a 0)] : List Int).take (i + 1)) = (([cfW c k' W (ws.getD a 0), cfW d k' W (ws.getD a 0)] : List Int).take i) ++ [cfW cc k' W (ws.getD a 0)] := by
            have i2 : i < 2 := (List.getElem?_eq_some_iff.mp hx).1
            rcases (show i = 0 ∨ i = 1 by omega) with rfl | rfl
            · exact ⟨c, (Option.some.inj hx).symm, rfl⟩
            · exact ⟨d, (Option.some.inj hx).symm, rfl⟩
          refine ⟨rfl, .str (nmS cc), rfl, .int k', rfl, .int W, rfl, .ref Tg, rfl, Tg, _, 2, .ref L, rfl, rfl, SqT.of (kD _ _ nTD eTg), rfl, .int a, rfl, L, _, a, .int (ws.getD a 0), rfl, rfl, .inl (.inl (kD _ _ nLD eL)), hat, cc, k', W, ws.getD a 0, rfl, hk, by omega, fun H'' s'' => ⟨_, s'' _ _ eD, ?_, ?_, fun x u n e => by rw [upd_ne n]; exact s'' _ _ (kD x u n e)⟩⟩
          · rw [List.length_map, sizeLine_eq]
            have : (([cfW c k' W (ws.getD a 0), cfW d k' W (ws.getD a 0)] : List Int).take i).length ≤ 2 := by rw [List.length_take]; exact Nat.min_le_right _ _
            omega
          · rw [upd_same, hcc, List.map_append]
            rfl
        obtain ⟨eD, kD⟩ := hp
        have sD : Same HA H' := fun x u e => kD x u (ne_of_none e hD) e
        refine ⟨D, _, rfl, .inl (.inl eD), rfl, _, _, rfl, _, _, rfl, rfl, ?_⟩
        have nx : ∃ (z5 z6 z7 z8 z9 z10 z11 : Option V), [some (V.ref RS), some (.ref NS), some (.int (k' : Int)), some (.int (a : Int)), some (.ref FL), some (.ref Tg), some (.ref Wg), some (.bl g), some (.int (W : Int)), some (.int (cfW c k' W (ws.getD a 0))), some (.int (cfW d k' W (ws.getD a 0))), y11] = [some (.ref RS), some (.ref NS), some (.int (k' : Int)), some (.int (a : Int)), some (.ref FL), z5, z6, z7, z8, z9, z10, z11] ∧ Same H7 H' := ⟨_, _, _, _, _, _, _, rfl, sA7.trans sD⟩
        have fin : ¬ decide (V.int (cfW c k' W (ws.getD a 0)) = V.int (cfW d k' W (ws.getD a 0))) = true := fun z => ne (V.int.inj (of_decide_eq_true z))
        refine ⟨.int _, rfl, .int _, rfl, _, _, rfl, rfl, _, rfl, ite2 (fun e => ?_) (fun e => ?_)⟩
        · have lt := of_decide_eq_true e
          refine ⟨.bl g, rfl, g, rfl, ?_⟩
          cases g
          · exact ⟨.int _, rfl, .int _, rfl, rfl, _, rfl, ite2 (fun z => absurd z fin) (fun _ => nx)⟩
          · exact absurd lt (nl rfl)
        · exact ⟨.int _, rfl, .int _, rfl, rfl, _, rfl, ite2 (fun z => absurd z fin) (fun _ => nx)⟩
    · obtain ⟨y5, y6, y7, y8, y9, y10, y11, rfl, s8⟩ := hp
      exact q H8 (s07.trans s8)
section reprs
variable {X : Cx}
def rReprS : List V → Hp → VK → Prop := fun xs H Q => ∃ (x : V) (d : PyData), xs = [x] ∧ ((x = .non ∧ d = .none) ∨ ∃ i, x = .int i ∧ d = .int i ∧ d.showable = true) ∧ Q (.str d.shown) H
theorem call_reprS : CallR X (.builtin "repr") rReprS := by
  intro pins s σ H xs us Q I r h
  obtain ⟨x, d, rfl, hx, q⟩ := h
  obtain ⟨u, rfl, ru⟩ := vals1 r
  rcases hx with ⟨rfl, rfl⟩ | ⟨i, rfl, rfl, hs⟩
  · obtain rfl : u = Value.none := ru
    exact PySem.P.repr_of_none ⟨.str _, H, I.tok _, ⟨_, rfl⟩, q⟩
  · obtain ⟨t, rfl⟩ := ru
    exact PySem.P.repr_of_int (by simpa [PyData.showable] using hs) ⟨.str _, H, I.tok _, ⟨_, rfl⟩, by simpa only [PyData.shown] using q⟩
end reprs
theorem gb_unique {n : Nat} {ds : List Deed} {o W : Int} {r r' : V} (h : GB n ds o W r) (k : GB n ds o W r') : r = r' := by
  rcases h with ⟨rfl, h⟩ | ⟨v, rfl, v0, v1, v2, v3⟩
  · rcases k with ⟨rfl, _⟩ | ⟨u, rfl, u0, u1, u2, u3⟩
    · rfl
    · exact absurd u2 (h u u0 u1)
  · rcases k with ⟨rfl, k⟩ | ⟨u, rfl, u0, u1, u2, u3⟩
    · exact absurd v2 (k v v0 v1)
    · have := v3 u u0 u1 u2
      have := u3 v v0 v1 v2
      rw [show v = u by omega]
theorem gb_data {n : Nat} {ds : List Deed} {o W : Int} {r : V} (h : GB n ds o W r) (hn : n ≤ 60) : ∃ d : PyData, (r = .non ∧ d = .none) ∨ ∃ i, r = .int i ∧ d = .int i ∧ d.showable = true := by
  rcases h with ⟨rfl, h⟩ | ⟨v, rfl, v0, v1, v2, v3⟩
  · exact ⟨.none, .inl ⟨rfl, rfl⟩⟩
  · refine ⟨.int v, .inr ⟨v, rfl, rfl, (nice_int ?_).sh⟩⟩
    have := pw_le hn
    omega
section ch3
variable {X : Cx} {a b c d : Expr} {ta tb tc td : TE} {pos : Pos}
def tChain3 (r r' r'' : R2) (ta tb tc td : TE) : TT := fun σ H Q => ta σ H fun x H1 => tb σ H1 fun y H2 => r x y H2 fun z H3 => ∃ k, z = .bl k ∧
  (if k = true then tc σ H3 fun w' H4 => r' y w' H4 fun z2 H5 => ∃ k2, z2 = .bl k2 ∧ (if k2 = true then td σ H5 fun u' H6 => r'' w' u' H6 fun z3 H7 => ∃ k3, z3 = .bl k3 ∧ Q k3 H7 else Q false H5) else Q false H3)
theorem pt_chain3 {op op' op'' : CmpOp} {r r' r'' : R2} (ho : OpR X (compareOp op) r) (ho' : OpR X (compareOp op') r') (ho'' : OpR X (compareOp op'') r'') (ha : PE X a ta) (hb : PE X b tb) (hc : PE X c tc) (hd : PE X d td)
    (hm : lastMarks [op, op', op''] [b, c, d] = false := by with_unfolding_all rfl) : PT X (.Compare a [op, op', op''] [b, c, d] pos) (tChain3 r r' r'' ta tb tc td) := by
  refine ⟨fun pins s σ H Q I h => ?_⟩
  refine isTrue_chain (thn (ha.run pins s σ H _ I h) fun v s1 ⟨x, H1, I1, r1, q1⟩ => test_link (thn (hb.run pins s1 σ H1 _ I1 q1) fun u s2 ⟨y, H2, I2, r2, q2⟩ =>
    thn (ho pins s2 σ H2 x y v u _ I2 r1 r2 q2) fun d s3 ⟨z, H3, I3, r3, k, e, q3⟩ => ?_)) hm
  subst e
  cases r3
  refine wpAny_truthy_bool ?_
  cases k with
  | false => exact ite_ff ⟨H3, I3, q3⟩
  | true =>
    refine ite_tt (test_link (thn (hc.run pins s3 σ H3 _ I3 q3) fun w' s4 ⟨z', H4, I4, r4, q4⟩ => thn (ho' pins s4 σ H4 y z' u w' _ I4 r2 r4 q4) fun d' s5 ⟨z2, H5, I5, r5, k2, e2, q5⟩ => ?_))
    subst e2
    cases r5
    refine wpAny_truthy_bool ?_
    cases k2 with
    | false => exact ite_ff ⟨H5, I5, q5⟩
    | true =>
      refine ite_tt (test_last (thn (hd.run pins s5 σ H5 _ I5 q5) fun u' s6 ⟨z6, H6, I6, r6, q6⟩ => thn (ho'' pins s6 σ H6 z' z6 w' u' _ I6 r4 r6 q6) fun d'' s7 ⟨z7, H7, I7, r7, k3, e3, q7⟩ => ?_))
      subst e3
      cases r7
      exact wpAny_truthy_bool ⟨H7, I7, q7⟩
end ch3
/-- what turned told of such a row -/
def Fu (H : Hp) (T : Addr) (c : Nm) (k : Nat) : Prop :=
  (meetsB c = false ∧ ∃ M : Addr, H T = some (.tup [.str "turned", .ref M])) ∨
  (meetsB c = true ∧ ∃ x : Int, H T = some (.tup [.str "meet", .int ((k : Int) + 1), .int x, .int (x + 2 ^ k)]) ∧ 0 ≤ x ∧ x < 2 ^ k ∧ cfW c k (k + 1) x = cfW c k (k + 1) (x + 2 ^ k))
theorem Fu.same {H H' : Hp} {T : Addr} {c : Nm} {k : Nat} (h : Fu H T c k) (s : Same H H') : Fu H' T c k := by
  rcases h with ⟨h1, M, h2⟩ | ⟨h1, x, h2, h3⟩
  · exact .inl ⟨h1, M, s _ _ h2⟩
  · exact .inr ⟨h1, x, s _ _ h2, h3⟩
theorem tu_fnd {c : Nm} {k : Nat} {R cR : Addr} {H : Hp} {Q : VK} {E : XK} (hk : k ≤ 5) (h1 : RowAt H R (1 : Nat) (rowD c 1 k 0) ((outN c 1 k 0 : Nat) : Int)) (q : ∀ H' T, Same H H' → Fu H' T c k → Q (.ref T) H') : spTu cR [.ref R] H Q E := by
  have ok := row51_ok (c := c) (m := 1) (a := 0) (Nat.le_refl 1) (by decide) hk (by decide)
  refine ⟨R, 1, _, _, rfl, h1, ok, fun _ => ⟨fun H' T M as cs wy s _ _ eT _ _ hb _ _ => ?_, fun H' T cs wy cu c0 s _ eT hb hc he _ => ?_⟩, fun z => absurd rfl z⟩
  · refine q H' T s (.inl ⟨?_, M, eT⟩)
    cases hm : meetsB c with
    | false => rfl
    | true => exact absurd (tu_meet hk hm) (bfs_neverG hb k)
  · have h01 : ([0] : List Int) ∈ allB 1 := by decide
    have fw := bfs_firstwG hb hc h01 (fun g => g he)
    obtain ⟨p1, p2⟩ := bfs_pathG hb cu cu c0 (Nat.le_refl _) hc
    have hall : ∀ c ∈ path wy cu, c.length = 1 ∧ ∀ x ∈ c, Bit x := fun c hc => allB_ok 1 c (p1 c hc)
    have hl : (path wy cu ++ [[(0 : Int)]]).length = (path wy cu).length + 1 := by rw [List.length_append]; rfl
    rw [hl] at fw
    cases hm : meetsB c with
    | false =>
      rcases fw with ⟨z, _⟩ | ⟨t, _, z, _⟩
      · omega
      · exact absurd z (tu_turned hk hm t)
    | true =>
      have e := least_uniqG fw (.inr ⟨k, rfl, tu_meet hk hm, fun s hs => tu_low hk hs⟩)
      have el : (path wy cu).length = k := by omega
      have mw := meet_worth (o := ((outN c 1 k 0 : Nat) : Int)) ok hall (by rw [show runC (rowD c 1 k 0) ((rowD c 1 k 0).map fcD) (path wy cu) = c0 by rw [← runC_fold]; exact p2.symm]; exact he)
      rw [wof_one, wof_one, Int.zero_mul, Int.one_mul, Int.add_zero] at mw
      obtain ⟨x0, x1⟩ := colW_range (j := 0) (cs := path wy cu) fun c hc => by
        obtain ⟨l, b⟩ := hall c hc
        match c, l with
        | [x], _ => exact b x List.mem_cons_self
      rw [el] at mw x1 eT
      have hp := pw_pos k
      have e2 : (2 : Int) ^ (k + 1) = 2 ^ k * 2 := Int.pow_succ _ _
      refine q H' T s (.inr ⟨hm, _, eT, x0, x1, ?_⟩)
      rw [← wrth51 hk x0 (by omega), ← wrth51 hk (by omega) (by omega)]
      exact mw
def spSr : Sp := fun vs H Q _ => ∃ (wa wc R : Addr) (c : Nm) (k : Nat), vs = [.ref wa, .ref R, .str (nmS c), .int (k : Int)] ∧ k ≤ 5 ∧ WL H wa wc ∧ RowAt H R (1 : Nat) (rowD c 1 k 0) ((outN c 1 k 0 : Nat) : Int) ∧ ∀ H', WL H' wa wc → Kp wa wc H H' → Q (.bl true) H'
set_option maxHeartbeats 4000000 in
theorem ok_sr {f fU fD fT fG fB fW' cR : Addr} {fd fdU fdD fdT fdG fdB fdW' : FuncData} {k : Nat} (F : Fun K "_law_single_right" "_law_single_right" s_law_single_right f fd)
    (GU : FnOk P w K mg base (L2.CX P w) (k + 6) fU fdU ["row"] (spTu cR)) (kU : PySem.W.keepIn K (.ref fU) = true) (bU : Binds K fdU ["row"] []) (gU : mg "turned" = some (.ref fU))
    (GD : FnOk P w K mg base CX0 (k + 1) fD fdD ["well", "many"] spDraw) (kD : PySem.W.keepIn K (.ref fD) = true) (bD : Binds K fdD ["well", "many"] []) (gD : mg "_law_draw" = some (.ref fD))
    (GT : FnOk P w K mg base CX0 (k + 1) fT fdT ["width"] spTop) (kT : PySem.W.keepIn K (.ref fT) = true) (bT : Binds K fdT ["width"] []) (gT : mg "_law_top" = some (.ref fT))
    (GG : FnOk P w K mg base CX0 (k + 7) fG fdG ["row", "width", "word"] spGb) (kG : PySem.W.keepIn K (.ref fG) = true) (bG : Binds K fdG ["row", "width", "word"] []) (gG : mg "gone_back" = some (.ref fG))
    (GB : FnOk P w K mg base CX0 (k + 3) fB fdB ["word", "k", "width", "y"] spBkw) (kB : PySem.W.keepIn K (.ref fB) = true) (bB : Binds K fdB ["word", "k", "width", "y"] []) (gB : mg "_law_back" = some (.ref fB))
    (GW : FnOk P w K mg base CX0 (k + 2) fW' fdW' ["word", "k", "width", "x"] spWo) (kW : PySem.W.keepIn K (.ref fW') = true) (bW : Binds K fdW' ["word", "k", "width", "x"] []) (gW : mg "_law_worth" = some (.ref fW'))
    (mI : mg "int" = none) (mn : mg "len" = none) (mm : mg "min" = none) (mp : mg "repr" = none) : FnOk P w K mg base CX0 (k + 8) f fd ["well", "row", "word", "k"] spSr := by
  refine F.ok sc_law_single_right (fun vs H Q E h => ?_) (fun cdv A outer s H vs Q E hr h => ?_)
  · obtain ⟨wa, wc, R, c, k, rfl, _⟩ := h
    rfl
  · obtain ⟨wa, wc, R, c, k', rfl, hk, hw, hrow, q⟩ := h
    have nd := sc_law_single_right.nd
    have R1 := hr.mono (show k + 1 ≤ k + 7 by omega)
    have R2' := hr.mono (show k + 2 ≤ k + 7 by omega)
    have R3 := hr.mono (show k + 3 ≤ k + 7 by omega)
    have R6 := hr.mono (show k + 6 ≤ k + 7 by omega)
    refine ⟨_, pss_cons (ps_set (i := 4) nd rfl (.inl rfl) (pe_call GU R6 (by rfl) gU kU bU .nil passL (pa_cons (pv 1) pa_nil)))
    (pss_cons (ps_set (i := 5) nd rfl (.inl rfl) (pe_cmpR op_in_seq (pv 2) (pe_tup (pa_cons pe_str (pa_cons pe_str (pa_cons pe_str pa_nil)))) (by rfl)))
    (pss_mid (ps_if (pt_cmpR op_ne (pe_ix ix_tup (pv 4) pe_int (fun _ _ => rfl)) (pe_ix ix_list (pe_lst (pa_cons pe_str (pa_cons pe_str pa_nil))) (pe_callTy call_int1 (by rfl) mI (by decide +kernel) (pa_cons (pv 5) pa_nil)) (fun _ _ => rfl)) (nomark _)) (pss_one (ps_ret pe_bl)) pss_nil)
    (pss_mid (ps_if (pt_val (pv 5))
      (pss_cons (ps_if (PW.pt (pw_or (pt_cmpR op_ne (pe_callB call_len_seq (by rfl) mn PySem.boot_len (pa_cons (pv 4) pa_nil)) pe_int (nomark _)) (pw_or (pt_cmpR op_ne (pe_ix ix_tup (pv 4) pe_int (fun _ _ => rfl)) (pe_op op_add (pv 3) pe_int) (nomark _)) (pw_or1 (pt_not (pt_chain3 op_le op_lt op_lt pe_int (pe_ix ix_tup (pv 4) pe_int (fun _ _ => rfl)) (pe_ix ix_tup (pv 4) pe_int (fun _ _ => rfl)) (pe_call GT R1 (by rfl) gT kT bT .nil pass0 (pa_cons (pe_op op_add (pv 3) pe_int) pa_nil)))))))) (pss_one (ps_ret pe_bl)) pss_nil)
      (pss_one (ps_if (pt_cmpR op_ne (pe_call GW R2' (by rfl) gW kW bW .nil pass0 (pa_cons (pv 2) (pa_cons (pv 3) (pa_cons (pe_op op_add (pv 3) pe_int) (pa_cons (pe_ix ix_tup (pv 4) pe_int (fun _ _ => rfl)) pa_nil))))) (pe_call GW R2' (by rfl) gW kW bW .nil pass0 (pa_cons (pv 2) (pa_cons (pv 3) (pa_cons (pe_op op_add (pv 3) pe_int) (pa_cons (pe_ix ix_tup (pv 4) pe_int (fun _ _ => rfl)) pa_nil))))) (nomark _)) (pss_one (ps_ret pe_bl)) pss_nil)))
      pss_nil)
    (pss_cons (ps_for PassesOwn.never rfl (pi_list (pe_lst (pa_cons (pe_op op_add (pv 3) pe_int) (pa_cons (pe_op op_add pe_int (pe_call GD R1 (by rfl) gD kD bD .nil pass0 (pa_cons (pv 0) (pa_cons pe_int pa_nil)))) (pa_cons pe_int pa_nil))))) (pg_name (i := 6) nd rfl (.inl rfl))
      (pss_one (ps_for PassesOwn.never rfl (pi_list (pe_lst (pa_cons (pe_call GD R1 (by rfl) gD kD bD .nil pass0 (pa_cons (pv 0) (pa_cons (pe_call GT R1 (by rfl) gT kT bT .nil pass0 (pa_cons (pv 6) pa_nil)) pa_nil))) (pa_cons (pe_op op_sub (pe_call GT R1 (by rfl) gT kT bT .nil pass0 (pa_cons (pv 6) pa_nil)) pe_int) (pa_cons pe_int (pa_cons (pe_call GT R1 (by rfl) gT kT bT .nil pass0 (pa_cons (pe_callB (call_min2 rfl) (by rfl) mm (by decide +kernel) (pa_cons (pv 3) (pa_cons (pe_op op_sub (pv 6) pe_int) pa_nil))) pa_nil)) pa_nil)))))) (pg_name (i := 7) nd rfl (.inl rfl))
        (pss_one (ps_if (pt_cmpR op_ne (pe_callB call_reprS (by rfl) mp (by decide +kernel) (pa_cons (pe_call GG hr (by rfl) gG kG bG .nil pass0 (pa_cons (pv 1) (pa_cons (pv 6) (pa_cons (pv 7) pa_nil)))) pa_nil)) (pe_callB call_reprS (by rfl) mp (by decide +kernel) (pa_cons (pe_call GB R3 (by rfl) gB kB bB .nil pass0 (pa_cons (pv 2) (pa_cons (pv 3) (pa_cons (pv 6) (pa_cons (pv 7) pa_nil))))) pa_nil)) (nomark _)) (pss_one (ps_ret pe_bl)) pss_nil)))))
    (pss_one (ps_ret pe_bl)))))), ?_⟩
    refine ⟨.ref R, rfl, ?_⟩
    refine conv51 ?_
    refine tu_fnd hk hrow fun H1 T s1 fu => ?_
    refine ⟨.str (nmS c), rfl, (by show 3 ≤ sizeLine; decide), fun TT hTT => ?_⟩
    have s2 := same_new (o := .tup [V.str "clear", .str "set", .str "twice"]) hTT
    have eTT : upd H1 TT (.tup [V.str "clear", .str "set", .str "twice"]) TT = some (.tup [V.str "clear", .str "set", .str "twice"]) := upd_same
    generalize upd H1 TT (.tup [V.str "clear", .str "set", .str "twice"]) = H2 at s2 eTT
    refine ⟨TT, _, rfl, .inr (SqT.of eTT), rfl, rfl, ?_⟩
    have hin : (if false = true then !inV (V.str (nmS c)) [V.str "clear", .str "set", .str "twice"] else inV (V.str (nmS c)) [V.str "clear", .str "set", .str "twice"]) = meetsB c := by cases c <;> rfl
    rw [hin]
    have s02 := s1.trans s2
    have fu2 := fu.same s2
    clear fu s1 s2 eTT hTT hin
    have hp := pw_pos k'
    refine ⟨fun σ' H' => σ' = [some (.ref wa), some (.ref R), some (.str (nmS c)), some (.int (k' : Int)), some (.ref T), some (.bl (meetsB c)), none, none] ∧ Same H2 H', ?_, ?_⟩
    · rcases fu2 with ⟨hm, M, eT⟩ | ⟨hm, x, eT, x0, x1, ex⟩
      · rw [hm]
        refine ⟨.ref T, rfl, T, _, 0, .str "turned", rfl, rfl, SqT.of eT, rfl, (by show 2 ≤ sizeLine; decide), fun L1 hL1 => ⟨.bl false, rfl, .inr ⟨false, rfl, L1, _, 0, .str "turned", rfl, rfl, .inl (.inl upd_same), rfl, rfl, _, rfl, ite2 (fun e => ?_) (fun _ => ⟨rfl, same_new hL1⟩)⟩⟩⟩
        exfalso
        rw [decide_eq_true rfl] at e
        cases e
      · rw [hm]
        refine ⟨.ref T, rfl, T, _, 0, .str "meet", rfl, rfl, SqT.of eT, rfl, (by show 2 ≤ sizeLine; decide), fun L1 hL1 => ⟨.bl true, rfl, .inr ⟨true, rfl, L1, _, 1, .str "meet", rfl, rfl, .inl (.inl upd_same), rfl, rfl, _, rfl, ite2 (fun e => ?_) (fun _ => ⟨rfl, same_new hL1⟩)⟩⟩⟩
        exfalso
        rw [decide_eq_true rfl] at e
        cases e
    rintro σ3 H3 ⟨rfl, s3⟩
    have fu3 := fu2.same s3
    refine ⟨fun σ' H' => σ' = [some (.ref wa), some (.ref R), some (.str (nmS c)), some (.int (k' : Int)), some (.ref T), some (.bl (meetsB c)), none, none] ∧ Same H3 H', ?_, ?_⟩
    · rcases fu3 with ⟨hm, M, eT⟩ | ⟨hm, x, eT, x0, x1, ex⟩
      · rw [hm]
        refine ⟨.bl false, rfl, false, rfl, ?_⟩
        exact ⟨rfl, Same.refl H3⟩
      · rw [hm]
        refine ⟨.bl true, rfl, true, rfl, ?_⟩
        refine ⟨.ref T, rfl, T, _, rfl, .inr (SqT.of eT), rfl, _, rfl, ite2 (fun e => ?_) (fun _ => ?_)⟩
        · exfalso
          cases e
        refine ⟨.ref T, rfl, T, _, 1, .int ((k' : Int) + 1), rfl, rfl, SqT.of eT, rfl, .int k', rfl, _, 1, rfl, rfl, rfl, _, rfl, ite2 (fun e => ?_) (fun _ => ?_)⟩
        · exfalso
          rw [decide_eq_true rfl] at e
          cases e
        have e2 : (2 : Int) ^ (k' + 1) = 2 ^ k' * 2 := Int.pow_succ _ _
        refine ⟨.ref T, rfl, T, _, 2, .int x, rfl, rfl, SqT.of eT, rfl, 0, x, rfl, rfl, _, rfl, ite2 (fun _ => ?_) (fun z => absurd (decide_eq_true x0) z)⟩
        refine ⟨.ref T, rfl, T, _, 3, .int (x + 2 ^ k'), rfl, rfl, SqT.of eT, rfl, x, x + 2 ^ k', rfl, rfl, _, rfl, ite2 (fun _ => ?_) (fun z => absurd (decide_eq_true (by omega)) z)⟩
        refine ⟨.int k', rfl, _, 1, rfl, rfl, k' + 1, rfl, by omega, x + 2 ^ k', 2 ^ (k' + 1), rfl, rfl, _, rfl, ?_⟩
        have lt : x + 2 ^ k' < 2 ^ (k' + 1) := by omega
        refine ite2 (fun z => ?_) (fun _ => ?_)
        · exfalso
          rw [decide_eq_true lt] at z
          cases z
        refine ⟨.str (nmS c), rfl, .int k', rfl, .int k', rfl, _, 1, rfl, rfl, .ref T, rfl, T, _, 2, .int x, rfl, rfl, SqT.of eT, rfl, c, k', k' + 1, x, rfl, hk, by omega, fun H5 s5 => ⟨.str (nmS c), rfl, .int k', rfl, .int k', rfl, _, 1, rfl, rfl, .ref T, rfl, T, _, 3, .int (x + 2 ^ k'), rfl, rfl, SqT.of (s5 _ _ eT), rfl, c, k', k' + 1, x + 2 ^ k', rfl, hk, by omega, fun H6 s6 => ⟨rfl, _, rfl, ite2 (fun e => ?_) (fun _ => ⟨rfl, s5.trans s6⟩)⟩⟩⟩
        exfalso
        rw [ex, decide_eq_true rfl] at e
        cases e
    rintro σ4 H4 ⟨rfl, s4⟩
    have s14 := (s02.trans s3).trans s4
    have k4 : Kp wa wc H H4 := Same.kp s14
    have w4 := hw.same s14
    clear fu2 fu3 s3 s4 s02
    refine ⟨.int k', rfl, _, 1, rfl, rfl, .ref wa, rfl, wa, wc, 60, rfl, by decide, by decide, w4, fun H5 z z0 z1 w5 k5 => ⟨1, z, rfl, rfl, (by show 3 ≤ sizeLine; decide), fun WL' hWL => ?_⟩⟩
    obtain ⟨u, hu, u1, u2⟩ : ∃ u : Nat, 1 + z = (u : Int) ∧ 1 ≤ u ∧ u ≤ 60 := ⟨(1 + z).toNat, by omega, by omega, by omega⟩
    have sW := same_new (o := .lst [V.int ((k' : Int) + 1), .int (1 + z), .int 60]) hWL
    have eW : upd H5 WL' (.lst [V.int ((k' : Int) + 1), .int (1 + z), .int 60]) WL' = some (.lst (([k' + 1, u, 60] : List Nat).map fun (n : Nat) => V.int (n : Int))) := by
      rw [upd_same, hu]
      rfl
    obtain ⟨nWa, nWc⟩ := w5.ne_new hWL
    have w6 := w5.same sW
    have k6 := (k4.trans k5).trans (Same.kp sW)
    generalize upd H5 WL' (.lst [V.int ((k' : Int) + 1), .int (1 + z), .int 60]) = H6 at sW eW w6 k6
    clear w4 k4 w5 k5 sW hWL
    refine ⟨WL', rfl, ⟨_, .inl (.inl eW)⟩, for_list (K := K) (a := WL') (xs := ([k' + 1, u, 60] : List Nat).map fun (n : Nat) => V.int (n : Int)) (fun i σ H' => ∃ (y6 y7 : Option V), σ = [some (.ref wa), some (.ref R), some (.str (nmS c)), some (.int (k' : Int)), some (.ref T), some (.bl (meetsB c)), y6, y7] ∧ WL H' wa wc ∧ Kp wa wc H6 H')
      ⟨_, _, rfl, w6, Same.kp (Same.refl H6)⟩ (fun i σ H' _ hp => ?_) (fun i xv σ H7 hx hp => ?_) (fun σ H7 hp => ?_)⟩
    · obtain ⟨_, _, _, _, kk⟩ := hp
      exact .inl (.inl (kk _ _ nWa nWc eW))
    · obtain ⟨y6, y7, rfl, w7, k7⟩ := hp
      obtain ⟨n, rfl, n1, n60⟩ : ∃ n : Nat, xv = .int (n : Int) ∧ 1 ≤ n ∧ n ≤ 60 := by
        have i3 : i < 3 := (List.getElem?_eq_some_iff.mp hx).1
        rcases (show i = 0 ∨ i = 1 ∨ i = 2 by omega) with rfl | rfl | rfl
        · exact ⟨k' + 1, (Option.some.inj hx).symm, by omega, by omega⟩
        · exact ⟨u, (Option.some.inj hx).symm, u1, u2⟩
        · exact ⟨60, (Option.some.inj hx).symm, by omega, by omega⟩
      have p60 := pw_le n60
      have pn := pw_pos n
      refine ⟨.ref wa, rfl, .int n, rfl, n, rfl, by omega, ?_⟩
      refine conv51 ?_
      obtain ⟨mn, hmn, mlt⟩ : ∃ mn : Nat, (if (n : Int) - 1 < (k' : Int) then (n : Int) - 1 else (k' : Int)) = (mn : Int) ∧ mn < n := by
        by_cases z : (n : Int) - 1 < (k' : Int)
        · exact ⟨n - 1, by rw [if_pos z]; omega, by omega⟩
        · exact ⟨k', by rw [if_neg z], by omega⟩
      have pm := pw_pos mn
      have pml : (2 : Int) ^ mn < 2 ^ n := by
        rw [pow_split mlt]
        have := pw_pos (n - mn - 1)
        have h2 : (2 : Int) ^ mn * 1 < 2 ^ mn * (2 * 2 ^ (n - mn - 1)) := Int.mul_lt_mul_of_pos_left (by omega) pm
        omega
      refine ⟨wa, wc, 2 ^ n, rfl, pn, Int.le_trans p60 (by decide), w7, fun H8 z z0 z1 w8 k8 => ⟨.int n, rfl, n, rfl, by omega, 2 ^ n, 1, rfl, rfl, .int k', rfl, .int n, rfl, n, 1, rfl, rfl, k', (n : Int) - 1, rfl, mn, congrArg (fun q => [V.int q]) hmn, by omega, (by show 4 ≤ sizeLine; decide), fun YL hYL => ?_⟩⟩
      have sY := same_new (o := .lst [V.int z, .int (2 ^ n - 1), .int 0, .int (2 ^ mn)]) hYL
      have eY : upd H8 YL (.lst [V.int z, .int (2 ^ n - 1), .int 0, .int (2 ^ mn)]) YL = some (.lst (([z, 2 ^ n - 1, 0, 2 ^ mn] : List Int).map V.int)) := upd_same
      obtain ⟨nYa, nYc⟩ := w8.ne_new hYL
      have w9 := w8.same sY
      have k9 := (k7.trans k8).trans (Same.kp sY)
      change ∃ a, V.ref YL = V.ref a ∧ _
      generalize upd H8 YL (.lst [V.int z, .int (2 ^ n - 1), .int 0, .int (2 ^ mn)]) = H9 at sY eY w9 k9
      refine ⟨YL, rfl, ⟨_, .inl (.inl eY)⟩, for_list (K := K) (a := YL) (xs := ([z, 2 ^ n - 1, 0, 2 ^ mn] : List Int).map V.int) (fun j σ H' => ∃ (y7 : Option V), σ = [some (.ref wa), some (.ref R), some (.str (nmS c)), some (.int (k' : Int)), some (.ref T), some (.bl (meetsB c)), some (.int (n : Int)), y7] ∧ WL H' wa wc ∧ Kp wa wc H9 H')
        ⟨_, rfl, w9, Same.kp (Same.refl H9)⟩ (fun j σ H' _ hp => ?_) (fun j yv σ HA hy hp => ?_) (fun σ HA hp => ?_)⟩
      · obtain ⟨_, _, _, kk⟩ := hp
        exact .inl (.inl (kk _ _ nYa nYc eY))
      · obtain ⟨y7, rfl, wA, kA⟩ := hp
        obtain ⟨y, rfl, y0, y1⟩ : ∃ y : Int, yv = .int y ∧ 0 ≤ y ∧ y < 2 ^ n := by
          have j4 : j < 4 := (List.getElem?_eq_some_iff.mp hy).1
          rcases (show j = 0 ∨ j = 1 ∨ j = 2 ∨ j = 3 by omega) with rfl | rfl | rfl | rfl
          · exact ⟨z, (Option.some.inj hy).symm, z0, z1⟩
          · exact ⟨2 ^ n - 1, (Option.some.inj hy).symm, by omega, by omega⟩
          · exact ⟨0, (Option.some.inj hy).symm, Int.le_refl _, pn⟩
          · exact ⟨2 ^ mn, (Option.some.inj hy).symm, Int.le_of_lt pm, pml⟩
        have ok := row51_ok (c := c) (m := 1) (a := 0) (Nat.le_refl 1) (by decide) hk (by decide)
        have rA := (kA.tups w9).row ((k9.tups w6).row ((k6.tups hw).row hrow))
        refine ⟨.ref R, rfl, .int n, rfl, .int y, rfl, R, n, y, _, _, rfl, by omega, y0, y1, rA, ok, fun HB r sB gr => ?_⟩
        obtain ⟨dd, hdt⟩ := gb_data gr n60
        refine ⟨r, dd, rfl, hdt, .str (nmS c), rfl, .int k', rfl, .int n, rfl, .int y, rfl, c, k', n, y, rfl, hk, by omega, fun HC r' sC gr' => ?_⟩
        have er := gb_unique gr' gr
        subst er
        refine ⟨r', dd, rfl, hdt, rfl, _, rfl, ite2 (fun e => ?_) (fun _ => ⟨_, rfl, wA.same (sB.trans sC), kA.trans (Same.kp (sB.trans sC))⟩)⟩
        exfalso
        rw [decide_eq_true rfl] at e
        cases e
      · obtain ⟨y7, rfl, wA, kA⟩ := hp
        exact ⟨_, _, rfl, wA, k9.trans kA⟩
    · obtain ⟨y6, y7, rfl, w7, k7⟩ := hp
      exact q H7 w7 (k6.trans k7)
set_option maxHeartbeats 8000000 in
theorem law_run {fa fW fD fB fP fM fS : Addr} {fd fdW fdD fdB fdP fdM fdS : FuncData} {s : Shared} {a : Addr} {ns : List Int} {H : Hp} (F : Fun K "law" "law" s_law fa fd) (bL : Binds K fd ["script"] [])
    (GW : FnOk P w K mg base CX0 1 fW fdW ["script"] (spWell K)) (kW : PySem.W.keepIn K (.ref fW) = true) (bW : Binds K fdW ["script"] []) (gW : mg "_law_well" = some (.ref fW))
    (GD : FnOk P w K mg base CX0 1 fD fdD ["well", "many"] spDraw) (kD : PySem.W.keepIn K (.ref fD) = true) (bD : Binds K fdD ["well", "many"] []) (gD : mg "_law_draw" = some (.ref fD))
    (GB : FnOk P w K mg base CX0 1 fB fdB ["many", "at", "k", "word"] spBr) (kB : PySem.W.keepIn K (.ref fB) = true) (bB : Binds K fdB ["many", "at", "k", "word"] []) (gB : mg "_law_bit_row" = some (.ref fB))
    (GP : FnOk P w K mg base CX0 7 fP fdP ["rows", "names", "k", "at"] spPq) (kP : PySem.W.keepIn K (.ref fP) = true) (bP : Binds K fdP ["rows", "names", "k", "at"] []) (gP : mg "_law_pair_right" = some (.ref fP))
    (GM : FnOk P w K mg base CX0 6 fM fdM ["row"] spLm) (kM : PySem.W.keepIn K (.ref fM) = true) (bM : Binds K fdM ["row"] []) (gM : mg "least_machine" = some (.ref fM))
    (GS : FnOk P w K mg base CX0 8 fS fdS ["well", "row", "word", "k"] spSr) (kS : PySem.W.keepIn K (.ref fS) = true) (bS : Binds K fdS ["well", "row", "word", "k"] []) (gS : mg "_law_single_right" = some (.ref fS))
    (mn : mg "len" = none) (mz : mg "zip" = none)
    (hlen : ns.length ≤ 63) (hbits : ∀ z ∈ ns, Builtin.Int.intBits z ≤ 1048576) (e0 : Env0 P w K mg base callerA [] s H) (hS : SqL K H a (ns.map V.int)) :
    codeAny (model P w) callerA (.call (.ref fa) ⟨[.ref a], []⟩) (CR CX0 [] P w H s (fun v _ => v = .bl true) E0) s := by
  refine fn_at (k := 8) (us := [.ref a]) (vs := [.ref a]) F sc_law ⟨rfl, by decide, by decide⟩ e0 ?_ (.cons rfl .nil) rfl (fun cdv => ?_)
  · have := bL s [.ref a] (e0.mod.kin.keeps fun b o e => (e0.bs b o e).1) rfl
    simpa using this
  have hr : Room 8 (callerA.deeper (envOfC "law" (defScope s_law) s.heap.objs.size fa cdv)) := Room.deeper (k := 8) ⟨rfl, by decide, by decide⟩ _
  have hg : (callerA.deeper (envOfC "law" (defScope s_law) s.heap.objs.size fa cdv)).guards = some [] := rfl
  have R1 := hr.mono (show 1 ≤ 8 by decide)
  have R6 := hr.mono (show 6 ≤ 8 by decide)
  have R7 := hr.mono (show 7 ≤ 8 by decide)
  have R8 := hr.mono (show 8 ≤ 8 by decide)
  have hu := hu_of hr
  have nd := sc_law.nd
  refine ⟨_, pss_cons (ps_set (i := 1) nd rfl (.inl rfl) (pe_call GW R1 (by rfl) gW kW bW .nil pass0 (pa_cons (pv 0) pa_nil)))
    (pss_cons (ps_set (i := 2) nd rfl (.inl rfl) (pe_lst (pa_cons pe_str (pa_cons pe_str (pa_cons pe_str (pa_cons pe_str (pa_cons pe_str (pa_cons pe_str pa_nil))))))))
    (pss_cons (ps_set (i := 3) nd rfl (.inl rfl) (pe_lst (pa_cons (pe_ix ix_list (pv 2) (pe_call GD R1 (by rfl) gD kD bD .nil pass0 (pa_cons (pv 1) (pa_cons pe_int pa_nil))) (fun _ _ => rfl)) (pa_cons (pe_ix ix_list (pv 2) (pe_call GD R1 (by rfl) gD kD bD .nil pass0 (pa_cons (pv 1) (pa_cons pe_int pa_nil))) (fun _ _ => rfl)) pa_nil))))
    (pss_cons (ps_set (i := 4) nd rfl (.inr rfl) (pe_op op_add pe_int (pe_call GD R1 (by rfl) gD kD bD .nil pass0 (pa_cons (pv 1) (pa_cons pe_int pa_nil)))))
    (pss_cons (ps_set (i := 5) nd rfl (.inr rfl) (pe_call GD R1 (by rfl) gD kD bD .nil pass0 (pa_cons (pv 1) (pa_cons (pv 4) pa_nil))))
    (pss_cons (ps_set (i := 6) nd rfl (.inr rfl) (pe_call GD R1 (by rfl) gD kD bD .nil pass0 (pa_cons (pv 1) (pa_cons pe_int pa_nil))))
    (pss_cons (ps_setLc (i := 8) (own := [("name", 7)]) (g := gName 7) (by rfl) nd rfl rfl (sw_true rfl rfl rfl (by decide +kernel)) (pi_list (pv 3)) (blkOk_by (own := [("name", 7)]) (N := N_law) (sc := defScope s_law) (by decide +kernel)) (fun _ _ _ _ _ => pg_name (i := 7) nd rfl (.inl rfl)) (fun _ _ _ _ _ => pts_nil) (fun _ _ _ _ _ => pe_call GB R1 (by rfl) gB kB bB .nil pass0 (pa_cons (pv 4) (pa_cons (pv 5) (pa_cons (pv 6) (pa_cons (pv 7) pa_nil))))))
    (pss_cons (ps_if (pt_not (pt_val (pe_call GP R7 (by rfl) gP kP bP .nil pass0 (pa_cons (pv 8) (pa_cons (pv 3) (pa_cons (pv 6) (pa_cons (pv 5) pa_nil))))))) (pss_one (ps_ret pe_bl)) pss_nil)
    (pss_cons (ps_for PassesOwn.never rfl (pi_zip (by rfl) mz (pa_cons (pv 8) (pa_cons (pv 3) pa_nil))) (pg_tup rfl (pgs_cons (pg_name (i := 9) nd rfl (.inl rfl)) (pgs_cons (pg_name (i := 7) nd rfl (.inl rfl)) pgs_nil)))
      (pss_cons (ps_set (i := 10) nd rfl (.inl rfl) (pe_dget2 hu (pe_disp (pps_cons pe_str pe_int (pps_cons pe_str (pe_op op_add (pv 6) pe_int) pps_nil)) (by rfl) (by rfl) (fun z => by cases z) (by decide)) (pv 7) (pe_op op_add (pv 6) pe_int) ⟨rfl, rfl, rfl, rfl⟩))
      (pss_cons (ps_if (pt_cmpR op_ne (pe_callB call_len_seq (by rfl) mn PySem.boot_len (pa_cons (pe_call GM R6 (by rfl) gM kM bM .nil pass0 (pa_cons (pv 9) pa_nil)) pa_nil)) (pv 10) (nomark _)) (pss_one (ps_ret pe_bl)) pss_nil)
      (pss_one (ps_if (PW.pt (pw_and (pt_cmpR op_eq (pv 4) pe_int (nomark _)) (pw_and1 (pt_not (pt_val (pe_call GS hr (by rfl) gS kS bS .nil pass0 (pa_cons (pv 1) (pa_cons (pv 9) (pa_cons (pv 7) (pa_cons (pv 6) pa_nil)))))))))) (pss_one (ps_ret pe_bl)) pss_nil)))))
    (pss_one (ps_ret pe_bl)))))))))), ?_⟩
  refine ⟨.ref a, rfl, a, ns, rfl, hS, hlen, hbits, fun H1 wa wc s1 hwa hwc w1 => ?_⟩
  refine ⟨(by show 6 ≤ sizeLine; decide), fun WL' hWL => ?_⟩
  have sW := same_new (o := .lst [V.str "clear", .str "set", .str "turn", .str "add", .str "twice", .str "leave"]) hWL
  have eW : upd H1 WL' (.lst [V.str "clear", .str "set", .str "turn", .str "add", .str "twice", .str "leave"]) WL' = some (.lst (([Nm.clear, .set, .turn, .add, .twice, .leave] : List Nm).map fun c => V.str (nmS c))) := upd_same
  obtain ⟨nWa, nWc⟩ := w1.ne_new hWL
  have w2 := w1.same sW
  generalize upd H1 WL' (.lst [V.str "clear", .str "set", .str "turn", .str "add", .str "twice", .str "leave"]) = H2 at sW eW w2
  have pick : ∀ z : Int, 0 ≤ z → z < 6 → ∃ c : Nm, atI (([Nm.clear, .set, .turn, .add, .twice, .leave] : List Nm).map fun c => V.str (nmS c)) z = some (.str (nmS c)) := fun z z0 z1 => by
    rcases (show z = 0 ∨ z = 1 ∨ z = 2 ∨ z = 3 ∨ z = 4 ∨ z = 5 by omega) with rfl | rfl | rfl | rfl | rfl | rfl
    · exact ⟨.clear, rfl⟩
    · exact ⟨.set, rfl⟩
    · exact ⟨.turn, rfl⟩
    · exact ⟨.add, rfl⟩
    · exact ⟨.twice, rfl⟩
    · exact ⟨.leave, rfl⟩
  refine ⟨.ref WL', rfl, .ref wa, rfl, wa, wc, 6, rfl, by decide, by decide, w2, fun H3 z z0 z1 w3 k3 => ?_⟩
  obtain ⟨c, hc⟩ := pick z z0 z1
  refine ⟨WL', _, z, .str (nmS c), rfl, rfl, .inl (.inl (k3 _ _ nWa nWc eW)), hc, .ref WL', rfl, .ref wa, rfl, wa, wc, 6, rfl, by decide, by decide, w3, fun H4 z' z0' z1' w4 k4 => ?_⟩
  obtain ⟨d, hd⟩ := pick z' z0' z1'
  refine ⟨WL', _, z', .str (nmS d), rfl, rfl, .inl (.inl (k4 _ _ nWa nWc (k3 _ _ nWa nWc eW))), hd, (by show 2 ≤ sizeLine; decide), fun NS hNS => ?_⟩
  clear pick hc hd z0 z1 z0' z1' eW hWL sW nWa nWc k3 k4 w1 w2 w3
  have eNS : upd H4 NS (.lst [V.str (nmS c), .str (nmS d)]) NS = some (.lst [V.str (nmS c), .str (nmS d)]) := upd_same
  obtain ⟨nNa, nNc⟩ := w4.ne_new hNS
  have w5 := w4.same (same_new (o := .lst [V.str (nmS c), .str (nmS d)]) hNS)
  change gName 3 (V.ref NS) _ (upd H4 NS (.lst [V.str (nmS c), .str (nmS d)])) _
  generalize upd H4 NS (.lst [V.str (nmS c), .str (nmS d)]) = H5 at eNS w5
  clear hNS w4 s1 hwa hwc
  refine ⟨.ref wa, rfl, wa, wc, 2, rfl, by decide, by decide, w5, fun H6 mz0 m00 m01 w6 k6 => ⟨1, mz0, rfl, rfl, ?_⟩⟩
  obtain ⟨m, hm, m1, m2⟩ : ∃ m : Nat, 1 + mz0 = (m : Int) ∧ 1 ≤ m ∧ m ≤ 2 := ⟨(1 + mz0).toNat, by omega, by omega, by omega⟩
  change gName 4 (V.int (1 + mz0)) _ _ _
  rw [hm]
  refine ⟨.ref wa, rfl, .int m, rfl, wa, wc, m, rfl, by omega, by omega, w6, fun H7 az a0 a1 w7 k7 => ?_⟩
  obtain ⟨at', rfl⟩ := Int.eq_ofNat_of_zero_le a0
  refine ⟨.ref wa, rfl, wa, wc, 6, rfl, by decide, by decide, w7, fun H8 kz k0 k1 w8 k8 => ?_⟩
  obtain ⟨k, rfl⟩ := Int.eq_ofNat_of_zero_le k0
  have hk : k ≤ 5 := by omega
  have ha : at' < m := by omega
  have eNS8 := k8 _ _ nNa nNc (k7 _ _ nNa nNc (k6 _ _ nNa nNc eNS))
  clear k6 k7 k8 w5 w6 w7 eNS a0 a1 k0 k1 m00 m01 hm
  have eNSn := eNS8
  refine ⟨.ref NS, rfl, NS, rfl, ⟨_, .inl (.inl eNS8)⟩, fun RS hRS => ?_⟩
  have nNR : NS ≠ RS := ne_of_none eNS8 hRS
  obtain ⟨nRa, nRc⟩ := w8.ne_new hRS
  refine lc_list (K := K) (a := NS) (xs := [.str (nmS c), .str (nmS d)]) (fun i H' => ∃ Rs : List Addr, H' RS = some (.lst (Rs.map V.ref)) ∧ Paired (fun (R : Addr) (e : Nm) => RowAt H' R m (rowD e m k at') ((outN e m k at' : Nat) : Int)) Rs (([c, d] : List Nm).take i) ∧ ∀ x u, x ≠ RS → H8 x = some u → H' x = some u)
    ⟨[], upd_same, .nil, fun x u n e => by rw [upd_ne n]; exact e⟩ (fun i H' _ hp => ?_) (fun i x H' hx hp => ?_) (fun H' hp => ?_)
  · obtain ⟨_, _, _, kk⟩ := hp
    exact .inl (.inl (kk _ _ nNR eNS8))
  · obtain ⟨Rs, eR, hR, kR⟩ := hp
    obtain ⟨e, rfl, het⟩ : ∃ e : Nm, x = .str (nmS e) ∧ ([c, d] : List Nm).take (i + 1) = ([c, d] : List Nm).take i ++ [e] := by
      have i2 : i < 2 := (List.getElem?_eq_some_iff.mp hx).1
      rcases (show i = 0 ∨ i = 1 by omega) with rfl | rfl
      · exact ⟨c, (Option.some.inj hx).symm, rfl⟩
      · exact ⟨d, (Option.some.inj hx).symm, rfl⟩
    have rl := awLen hR
    have rl2 : Rs.length ≤ 2 := by rw [rl, List.length_take]; exact Nat.min_le_right _ _
    refine ⟨rfl, .int m, rfl, .int at', rfl, .int k, rfl, .str (nmS e), rfl, m, at', k, e, rfl, by omega, hk, fun H'' R s'' hr2 => ?_⟩
    have eR2 := s'' _ _ eR
    have t1 : TupsStay H'' (upd H'' RS (.lst (Rs.map V.ref ++ [.ref R]))) := tups_put eR2
    refine ⟨_, eR2, by rw [List.length_map, sizeLine_eq]; omega, Rs ++ [R], by rw [upd_same, List.map_append]; rfl, ?_, fun x u n e => by rw [upd_ne n]; exact s'' _ _ (kR x u n e)⟩
    rw [het]
    exact awSnoc (F := fun (R0 : Addr) (e : Nm) => RowAt (upd H'' RS (.lst (Rs.map V.ref ++ [.ref R]))) R0 m (rowD e m k at') ((outN e m k at' : Nat) : Int)) (t1.row hr2) (awMap (fun _ _ z => t1.row ((Same.tups s'').row z)) hR)
  obtain ⟨Rs, eR, hR, kR⟩ := hp
  obtain ⟨R1, R2', rfl, r1, r2⟩ : ∃ R1 R2, Rs = [R1, R2] ∧ RowAt H' R1 m (rowD c m k at') ((outN c m k at' : Nat) : Int) ∧ RowAt H' R2 m (rowD d m k at') ((outN d m k at' : Nat) : Int) := by
    have hR' : Paired (fun (R : Addr) (e : Nm) => RowAt H' R m (rowD e m k at') ((outN e m k at' : Nat) : Int)) Rs [c, d] := hR
    cases hR' with
    | cons h1 t =>
      cases t with
      | cons h2 t =>
        cases t
        exact ⟨_, _, rfl, h1, h2⟩
  have eNS' := kR _ _ nNR eNS8
  have s8' : Same H8 H' := fun x u e => kR x u (ne_of_none e hRS) e
  have w' := w8.same s8'
  clear hR kR
  refine ⟨.ref RS, rfl, .ref NS, rfl, .int k, rfl, .int at', rfl, RS, NS, R1, R2', m, k, at', c, d, rfl, m1, by omega, hk, ha, eR, eNS', r1, r2, fun H10 s10 => ⟨_, rfl, iteF ?_⟩⟩
  have eNS10 := s10 _ _ eNS'
  have eRS10 := s10 _ _ eR
  have w10 := w'.same s10
  have q1 := (Same.tups s10).row r1
  have q2 := (Same.tups s10).row r2
  refine ⟨.ref RS, rfl, .ref NS, rfl, RS, NS, _, _, rfl, .inl (.inl eRS10), .inl (.inl eNS10), for_it (walk_zip (K := K) (a := RS) (b := NS) (xs := [.ref R1, .ref R2']) (ys := [.str (nmS c), .str (nmS d)]) (n := 2) rfl)
    (fun i σ H' => ∃ (y7 y9 y10 : Option V), σ = [some (.ref a), some (.ref wa), some (.ref WL'), some (.ref NS), some (.int (m : Int)), some (.int (at' : Int)), some (.int (k : Int)), y7, some (.ref RS), y9, y10] ∧ WL H' wa wc ∧ Kp wa wc H10 H')
    ⟨_, _, _, rfl, w10, Same.kp (Same.refl H10)⟩ (fun i σ H' _ hp => ?_) (fun i x σ HA HB hi hp hy => ?_) (fun σ HA hp => rfl)⟩
  · obtain ⟨_, _, _, _, _, kk⟩ := hp
    exact ⟨.inl (.inl (kk _ _ nRa nRc eRS10)), .inl (.inl (kk _ _ nNa nNc eNS10))⟩
  obtain ⟨y7, y9, y10, rfl, wA, kA⟩ := hp
  obtain ⟨T, x1, x2, rfl, hT, rfl, g1, g2⟩ := hy
  obtain ⟨e, R, rfl, rfl, rowE⟩ : ∃ (e : Nm) (R : Addr), x1 = .ref R ∧ x2 = .str (nmS e) ∧ RowAt H10 R m (rowD e m k at') ((outN e m k at' : Nat) : Int) := by
    rcases (show i = 0 ∨ i = 1 by omega) with rfl | rfl
    · exact ⟨c, R1, (Option.some.inj g1).symm, (Option.some.inj g2).symm, q1⟩
    · exact ⟨d, R2', (Option.some.inj g1).symm, (Option.some.inj g2).symm, q2⟩
  have sT := same_new (o := .tup [.ref R, .str (nmS e)]) hT
  have eT : upd HA T (.tup [.ref R, .str (nmS e)]) T = some (.tup [.ref R, .str (nmS e)]) := upd_same
  generalize upd HA T (.tup [.ref R, .str (nmS e)]) = HB at sT eT
  refine ⟨T, _, rfl, SqT.of eT, rfl, _, _, rfl, _, _, rfl, rfl, ?_⟩
  have wB := wA.same sT
  have kB := kA.trans (Same.kp sT)
  clear wA kA sT eT g1 g2 hT
  intro p hp
  have sP : ∀ o, Same HB (upd HB p o) := fun o => same_new hp
  have hst : (valV (mergeK [] [(Sum.inr "leave", .int 1), (Sum.inr "twice", .int ((k : Int) + 3))]) (Sum.inr (nmS e))).getD (.int ((k : Int) + 2)) = .int ((stN e k : Nat) : Int) := by cases e <;> kernel_rfl
  refine ⟨.int k, rfl, k, 3, rfl, rfl, upd_same, [(Sum.inr "leave", .int 1), (Sum.inr "twice", .int ((k : Int) + 3))], rfl, (by show 2 ≤ 15; decide), p, rfl, .inl ⟨_, .inl upd_same⟩, .str (nmS e), rfl, .int k, rfl, k, 2, rfl, rfl, _, DGet.k (k := Sum.inr (nmS e)) upd_same, ?_⟩
  change gName 10 ((valV (mergeK [] [(Sum.inr "leave", .int 1), (Sum.inr "twice", .int ((k : Int) + 3))]) (Sum.inr (nmS e))).getD (.int ((k : Int) + 2))) _ _ _
  rw [hst, upd_upd]
  have s2 := sP (.dK (mergeK [] [(Sum.inr "leave", .int 1), (Sum.inr "twice", .int ((k : Int) + 3))]))
  generalize upd HB p (.dK (mergeK [] [(Sum.inr "leave", .int 1), (Sum.inr "twice", .int ((k : Int) + 3))])) = HC at s2
  have wC := wB.same s2
  have kC := kB.trans (Same.kp s2)
  clear sP s2 wB kB hp hst
  have rowC := (kC.tups w10).row rowE
  refine ⟨.ref R, rfl, R, m, _, _, rfl, rowC, row51_ok m1 (by omega) hk ha, fun HD p2 ls lm sD np eP mac lmok => ?_⟩
  have ll := awLen mac
  have lst := states51 m1 m2 hk ha lmok
  refine ⟨p2, _, rfl, .inl (.inl (.inl eP)), .int ((stN e k : Nat) : Int), rfl, rfl, _, rfl, ite2 (fun z => ?_) (fun _ => ?_)⟩
  · exfalso
    rw [List.length_map, ll, lst, decide_eq_true rfl] at z
    cases z
  have wD := wC.same sD
  have kD := kC.trans (Same.kp sD)
  refine ⟨.int m, rfl, rfl, _, rfl, ite2 (fun z => ?_) (fun _ => ⟨_, _, _, rfl, wD, kD⟩)⟩
  have me : m = 1 := by
    have := V.int.inj (of_decide_eq_true z)
    omega
  subst me
  obtain rfl : at' = 0 := by omega
  refine ⟨.ref wa, rfl, .ref R, rfl, .str (nmS e), rfl, .int k, rfl, wa, wc, R, e, k, rfl, hk, wD, (Same.tups sD).row rowC, fun HE wE kE => ⟨_, rfl, ?_⟩⟩
  exact ⟨_, _, _, rfl, wE, kD.trans kE⟩
theorem awL1 {α : Type} : ∀ {l : List α}, l.length = 1 → ∃ a0, l = [a0]
  | [a0], _ => ⟨a0, rfl⟩
theorem awL2 {α : Type} : ∀ {l : List α}, l.length = 2 → ∃ a0 a1, l = [a0, a1]
  | [a0, a1], _ => ⟨a0, a1, rfl⟩
theorem awL3 {α : Type} : ∀ {l : List α}, l.length = 3 → ∃ a0 a1 a2, l = [a0, a1, a2]
  | [a0, a1, a2], _ => ⟨a0, a1, a2, rfl⟩
theorem awL4 {α : Type} : ∀ {l : List α}, l.length = 4 → ∃ a0 a1 a2 a3, l = [a0, a1, a2, a3]
  | [a0, a1, a2, a3], _ => ⟨a0, a1, a2, a3, rfl⟩
theorem awL5 {α : Type} : ∀ {l : List α}, l.length = 5 → ∃ a0 a1 a2 a3 a4, l = [a0, a1, a2, a3, a4]
  | [a0, a1, a2, a3, a4], _ => ⟨a0, a1, a2, a3, a4, rfl⟩
set_option maxHeartbeats 4000000 in
theorem all_mk {l : PySem.W.OpenLaw} {w : World} {K : PySem.W.Frag} {h : Heap} {mg : Str → Option Value} {fa : Addr} (X : K.In h) (G : h.Ns mainGlobals mg) (hfa : mg "law" = some (.ref fa))
    {f0 : Addr} {od0 an0 : Option Addr} {sl0 : Array (Option Value)} {oc0 kV0 dc0 pm0 cd0 ct0 : Value}
    {f1 : Addr} {od1 an1 : Option Addr} {sl1 : Array (Option Value)} {oc1 kV1 dc1 pm1 cd1 ct1 : Value}
    {f2 : Addr} {od2 an2 : Option Addr} {sl2 : Array (Option Value)} {oc2 kV2 dc2 pm2 cd2 ct2 : Value}
    {f3 : Addr} {od3 an3 : Option Addr} {sl3 : Array (Option Value)} {oc3 kV3 dc3 pm3 cd3 ct3 : Value}
    {f4 : Addr} {od4 an4 : Option Addr} {sl4 : Array (Option Value)} {oc4 kV4 dc4 pm4 cd4 ct4 : Value}
    {f5 : Addr} {od5 an5 : Option Addr} {sl5 : Array (Option Value)} {oc5 kV5 dc5 pm5 cd5 ct5 : Value}
    {f6 : Addr} {od6 an6 : Option Addr} {sl6 : Array (Option Value)} {oc6 kV6 dc6 pm6 cd6 ct6 : Value}
    {f7 : Addr} {od7 an7 : Option Addr} {sl7 : Array (Option Value)} {oc7 kV7 dc7 pm7 cd7 ct7 : Value}
    {f8 : Addr} {od8 an8 : Option Addr} {sl8 : Array (Option Value)} {oc8 kV8 dc8 pm8 cd8 ct8 : Value}
    {f9 : Addr} {od9 an9 : Option Addr} {sl9 : Array (Option Value)} {oc9 kV9 dc9 pm9 cd9 ct9 : Value}
    {f10 : Addr} {od10 an10 : Option Addr} {sl10 : Array (Option Value)} {oc10 kV10 dc10 pm10 cd10 ct10 : Value}
    {f11 : Addr} {od11 an11 : Option Addr} {sl11 : Array (Option Value)} {oc11 kV11 dc11 pm11 cd11 ct11 : Value}
    {f12 : Addr} {od12 an12 : Option Addr} {sl12 : Array (Option Value)} {oc12 kV12 dc12 pm12 cd12 ct12 : Value}
    {f13 : Addr} {od13 an13 : Option Addr} {sl13 : Array (Option Value)} {oc13 kV13 dc13 pm13 cd13 ct13 : Value}
    {f14 : Addr} {od14 an14 : Option Addr} {sl14 : Array (Option Value)} {oc14 kV14 dc14 pm14 cd14 ct14 : Value}
    {f15 : Addr} {od15 an15 : Option Addr} {sl15 : Array (Option Value)} {oc15 kV15 dc15 pm15 cd15 ct15 : Value}
    {f16 : Addr} {od16 an16 : Option Addr} {sl16 : Array (Option Value)} {oc16 kV16 dc16 pm16 cd16 ct16 : Value}
    {f17 : Addr} {od17 an17 : Option Addr} {sl17 : Array (Option Value)} {oc17 kV17 dc17 pm17 cd17 ct17 : Value}
    {f18 : Addr} {od18 an18 : Option Addr} {sl18 : Array (Option Value)} {oc18 kV18 dc18 pm18 cd18 ct18 : Value}
    {f19 : Addr} {od19 an19 : Option Addr} {sl19 : Array (Option Value)} {oc19 kV19 dc19 pm19 cd19 ct19 : Value}
    {f20 : Addr} {od20 an20 : Option Addr} {sl20 : Array (Option Value)} {oc20 kV20 dc20 pm20 cd20 ct20 : Value}
    {f21 : Addr} {od21 an21 : Option Addr} {sl21 : Array (Option Value)} {oc21 kV21 dc21 pm21 cd21 ct21 : Value}
    {f22 : Addr} {od22 an22 : Option Addr} {sl22 : Array (Option Value)} {oc22 kV22 dc22 pm22 cd22 ct22 : Value}
    {f23 : Addr} {od23 an23 : Option Addr} {sl23 : Array (Option Value)} {oc23 kV23 dc23 pm23 cd23 ct23 : Value}
    {f24 : Addr} {od24 an24 : Option Addr} {sl24 : Array (Option Value)} {oc24 kV24 dc24 pm24 cd24 ct24 : Value}
    {f25 : Addr} {od25 an25 : Option Addr} {sl25 : Array (Option Value)} {oc25 kV25 dc25 pm25 cd25 ct25 : Value}
    {f26 : Addr} {od26 an26 : Option Addr} {sl26 : Array (Option Value)} {oc26 kV26 dc26 pm26 cd26 ct26 : Value}
    {f27 : Addr} {od27 an27 : Option Addr} {sl27 : Array (Option Value)} {oc27 kV27 dc27 pm27 cd27 ct27 : Value}
    {f28 : Addr} {od28 an28 : Option Addr} {sl28 : Array (Option Value)} {oc28 kV28 dc28 pm28 cd28 ct28 : Value}
    {f29 : Addr} {od29 an29 : Option Addr} {sl29 : Array (Option Value)} {oc29 kV29 dc29 pm29 cd29 ct29 : Value}
    {f30 : Addr} {od30 an30 : Option Addr} {sl30 : Array (Option Value)} {oc30 kV30 dc30 pm30 cd30 ct30 : Value}
    {f31 : Addr} {od31 an31 : Option Addr} {sl31 : Array (Option Value)} {oc31 kV31 dc31 pm31 cd31 ct31 : Value}
    {f32 : Addr} {od32 an32 : Option Addr} {sl32 : Array (Option Value)} {oc32 kV32 dc32 pm32 cd32 ct32 : Value}
    {f33 : Addr} {od33 an33 : Option Addr} {sl33 : Array (Option Value)} {oc33 kV33 dc33 pm33 cd33 ct33 : Value}
    {CWalk : Addr}
    {fWalk___init__ : Addr} {odWalk___init__ anWalk___init__ : Option Addr} {slWalk___init__ : Array (Option Value)} {ocWalk___init__ kVWalk___init__ dcWalk___init__ pmWalk___init__ cdWalk___init__ ctWalk___init__ : Value}
    {fWalk_meet : Addr} {odWalk_meet anWalk_meet : Option Addr} {slWalk_meet : Array (Option Value)} {ocWalk_meet kVWalk_meet dcWalk_meet pmWalk_meet cdWalk_meet ctWalk_meet : Value}
    {fWalk_bits_to : Addr} {odWalk_bits_to anWalk_bits_to : Option Addr} {slWalk_bits_to : Array (Option Value)} {ocWalk_bits_to kVWalk_bits_to dcWalk_bits_to pmWalk_bits_to cdWalk_bits_to ctWalk_bits_to : Value}
    {t_EVEN : Tok}
    {t_BELOW : Tok}
    {t_ABOVE : Tok}
    {cWideError : Addr}
    {cNoRow : Addr}
    {cNoPair : Addr}
    (a0 : PySem.W.nsIn K mainGlobals "all_bits" = some (some (.ref f0)))
    (l0 : K.lookup f0 = some ⟨oc0, od0, .func (PySem.W.fnOf "all_bits" "all_bits" (defArgs s_all_bits) (defBody s_all_bits) (defScope s_all_bits) .none kV0 dc0 pm0 an0 cd0 ct0), sl0⟩)
    (c0 : PySem.W.codeIn K cd0 "all_bits" = true) (k0 : PySem.W.keepIn K (.ref f0) = true)
    (a1 : PySem.W.nsIn K mainGlobals "first_carry" = some (some (.ref f1)))
    (l1 : K.lookup f1 = some ⟨oc1, od1, .func (PySem.W.fnOf "first_carry" "first_carry" (defArgs s_first_carry) (defBody s_first_carry) (defScope s_first_carry) .none kV1 dc1 pm1 an1 cd1 ct1), sl1⟩)
    (c1 : PySem.W.codeIn K cd1 "first_carry" = true) (k1 : PySem.W.keepIn K (.ref f1) = true)
    (a2 : PySem.W.nsIn K mainGlobals "deed_bit" = some (some (.ref f2)))
    (l2 : K.lookup f2 = some ⟨oc2, od2, .func (PySem.W.fnOf "deed_bit" "deed_bit" (defArgs s_deed_bit) (defBody s_deed_bit) (defScope s_deed_bit) .none kV2 dc2 pm2 an2 cd2 ct2), sl2⟩)
    (c2 : PySem.W.codeIn K cd2 "deed_bit" = true) (k2 : PySem.W.keepIn K (.ref f2) = true)
    (a3 : PySem.W.nsIn K mainGlobals "bits_of" = some (some (.ref f3)))
    (l3 : K.lookup f3 = some ⟨oc3, od3, .func (PySem.W.fnOf "bits_of" "bits_of" (defArgs s_bits_of) (defBody s_bits_of) (defScope s_bits_of) .none kV3 dc3 pm3 an3 cd3 ct3), sl3⟩)
    (c3 : PySem.W.codeIn K cd3 "bits_of" = true) (k3 : PySem.W.keepIn K (.ref f3) = true)
    (a4 : PySem.W.nsIn K mainGlobals "two_or_more" = some (some (.ref f4)))
    (l4 : K.lookup f4 = some ⟨oc4, od4, .func (PySem.W.fnOf "two_or_more" "two_or_more" (defArgs s_two_or_more) (defBody s_two_or_more) (defScope s_two_or_more) .none kV4 dc4 pm4 an4 cd4 ct4), sl4⟩)
    (c4 : PySem.W.codeIn K cd4 "two_or_more" = true) (k4 : PySem.W.keepIn K (.ref f4) = true)
    (a5 : PySem.W.nsIn K mainGlobals "deed_carry" = some (some (.ref f5)))
    (l5 : K.lookup f5 = some ⟨oc5, od5, .func (PySem.W.fnOf "deed_carry" "deed_carry" (defArgs s_deed_carry) (defBody s_deed_carry) (defScope s_deed_carry) .none kV5 dc5 pm5 an5 cd5 ct5), sl5⟩)
    (c5 : PySem.W.codeIn K cd5 "deed_carry" = true) (k5 : PySem.W.keepIn K (.ref f5) = true)
    (a6 : PySem.W.nsIn K mainGlobals "carry_behind" = some (some (.ref f6)))
    (l6 : K.lookup f6 = some ⟨oc6, od6, .func (PySem.W.fnOf "carry_behind" "carry_behind" (defArgs s_carry_behind) (defBody s_carry_behind) (defScope s_carry_behind) .none kV6 dc6 pm6 an6 cd6 ct6), sl6⟩)
    (c6 : PySem.W.codeIn K cd6 "carry_behind" = true) (k6 : PySem.W.keepIn K (.ref f6) = true)
    (a7 : PySem.W.nsIn K mainGlobals "steps" = some (some (.ref f7)))
    (l7 : K.lookup f7 = some ⟨oc7, od7, .func (PySem.W.fnOf "steps" "steps" (defArgs s_steps) (defBody s_steps) (defScope s_steps) .none kV7 dc7 pm7 an7 cd7 ct7), sl7⟩)
    (c7 : PySem.W.codeIn K cd7 "steps" = true) (k7 : PySem.W.keepIn K (.ref f7) = true)
    (a8 : PySem.W.nsIn K mainGlobals "kept_steps" = some (some (.ref f8)))
    (l8 : K.lookup f8 = some ⟨oc8, od8, .func (PySem.W.fnOf "kept_steps" "kept_steps" (defArgs s_kept_steps) (defBody s_kept_steps) (defScope s_kept_steps) .none kV8 dc8 pm8 an8 cd8 ct8), sl8⟩)
    (c8 : PySem.W.codeIn K cd8 "kept_steps" = true) (k8 : PySem.W.keepIn K (.ref f8) = true)
    (a9 : PySem.W.nsIn K mainGlobals "both_steps" = some (some (.ref f9)))
    (l9 : K.lookup f9 = some ⟨oc9, od9, .func (PySem.W.fnOf "both_steps" "both_steps" (defArgs s_both_steps) (defBody s_both_steps) (defScope s_both_steps) .none kV9 dc9 pm9 an9 cd9 ct9), sl9⟩)
    (c9 : PySem.W.codeIn K cd9 "both_steps" = true) (k9 : PySem.W.keepIn K (.ref f9) = true)
    (a10 : PySem.W.nsIn K mainGlobals "words_of" = some (some (.ref f10)))
    (l10 : K.lookup f10 = some ⟨oc10, od10, .func (PySem.W.fnOf "words_of" "words_of" (defArgs s_words_of) (defBody s_words_of) (defScope s_words_of) .none kV10 dc10 pm10 an10 cd10 ct10), sl10⟩)
    (c10 : PySem.W.codeIn K cd10 "words_of" = true) (k10 : PySem.W.keepIn K (.ref f10) = true)
    (a11 : PySem.W.nsIn K mainGlobals "check_pair" = some (some (.ref f11)))
    (l11 : K.lookup f11 = some ⟨oc11, od11, .func (PySem.W.fnOf "check_pair" "check_pair" (defArgs s_check_pair) (defBody s_check_pair) (defScope s_check_pair) .none kV11 dc11 pm11 an11 cd11 ct11), sl11⟩)
    (c11 : PySem.W.codeIn K cd11 "check_pair" = true) (k11 : PySem.W.keepIn K (.ref f11) = true)
    (a12 : PySem.W.nsIn K mainGlobals "alike" = some (some (.ref f12)))
    (l12 : K.lookup f12 = some ⟨oc12, od12, .func (PySem.W.fnOf "alike" "alike" (defArgs s_alike) (defBody s_alike) (defScope s_alike) .none kV12 dc12 pm12 an12 cd12 ct12), sl12⟩)
    (c12 : PySem.W.codeIn K cd12 "alike" = true) (k12 : PySem.W.keepIn K (.ref f12) = true)
    (a13 : PySem.W.nsIn K mainGlobals "sign_behind" = some (some (.ref f13)))
    (l13 : K.lookup f13 = some ⟨oc13, od13, .func (PySem.W.fnOf "sign_behind" "sign_behind" (defArgs s_sign_behind) (defBody s_sign_behind) (defScope s_sign_behind) .none kV13 dc13 pm13 an13 cd13 ct13), sl13⟩)
    (c13 : PySem.W.codeIn K cd13 "sign_behind" = true) (k13 : PySem.W.keepIn K (.ref f13) = true)
    (a14 : PySem.W.nsIn K mainGlobals "triples_behind" = some (some (.ref f14)))
    (l14 : K.lookup f14 = some ⟨oc14, od14, .func (PySem.W.fnOf "triples_behind" "triples_behind" (defArgs s_triples_behind) (defBody s_triples_behind) (defScope s_triples_behind) .none kV14 dc14 pm14 an14 cd14 ct14), sl14⟩)
    (c14 : PySem.W.codeIn K cd14 "triples_behind" = true) (k14 : PySem.W.keepIn K (.ref f14) = true)
    (a15 : PySem.W.nsIn K mainGlobals "at_most" = some (some (.ref f15)))
    (l15 : K.lookup f15 = some ⟨oc15, od15, .func (PySem.W.fnOf "at_most" "at_most" (defArgs s_at_most) (defBody s_at_most) (defScope s_at_most) .none kV15 dc15 pm15 an15 cd15 ct15), sl15⟩)
    (c15 : PySem.W.codeIn K cd15 "at_most" = true) (k15 : PySem.W.keepIn K (.ref f15) = true)
    (a16 : PySem.W.nsIn K mainGlobals "whole_machine" = some (some (.ref f16)))
    (l16 : K.lookup f16 = some ⟨oc16, od16, .func (PySem.W.fnOf "whole_machine" "whole_machine" (defArgs s_whole_machine) (defBody s_whole_machine) (defScope s_whole_machine) .none kV16 dc16 pm16 an16 cd16 ct16), sl16⟩)
    (c16 : PySem.W.codeIn K cd16 "whole_machine" = true) (k16 : PySem.W.keepIn K (.ref f16) = true)
    (a17 : PySem.W.nsIn K mainGlobals "numbered" = some (some (.ref f17)))
    (l17 : K.lookup f17 = some ⟨oc17, od17, .func (PySem.W.fnOf "numbered" "numbered" (defArgs s_numbered) (defBody s_numbered) (defScope s_numbered) .none kV17 dc17 pm17 an17 cd17 ct17), sl17⟩)
    (c17 : PySem.W.codeIn K cd17 "numbered" = true) (k17 : PySem.W.keepIn K (.ref f17) = true)
    (a18 : PySem.W.nsIn K mainGlobals "kinds_of_states" = some (some (.ref f18)))
    (l18 : K.lookup f18 = some ⟨oc18, od18, .func (PySem.W.fnOf "kinds_of_states" "kinds_of_states" (defArgs s_kinds_of_states) (defBody s_kinds_of_states) (defScope s_kinds_of_states) .none kV18 dc18 pm18 an18 cd18 ct18), sl18⟩)
    (c18 : PySem.W.codeIn K cd18 "kinds_of_states" = true) (k18 : PySem.W.keepIn K (.ref f18) = true)
    (a19 : PySem.W.nsIn K mainGlobals "least_machine" = some (some (.ref f19)))
    (l19 : K.lookup f19 = some ⟨oc19, od19, .func (PySem.W.fnOf "least_machine" "least_machine" (defArgs s_least_machine) (defBody s_least_machine) (defScope s_least_machine) .none kV19 dc19 pm19 an19 cd19 ct19), sl19⟩)
    (c19 : PySem.W.codeIn K cd19 "least_machine" = true) (k19 : PySem.W.keepIn K (.ref f19) = true)
    (a20 : PySem.W.nsIn K mainGlobals "check_single" = some (some (.ref f20)))
    (l20 : K.lookup f20 = some ⟨oc20, od20, .func (PySem.W.fnOf "check_single" "check_single" (defArgs s_check_single) (defBody s_check_single) (defScope s_check_single) .none kV20 dc20 pm20 an20 cd20 ct20), sl20⟩)
    (c20 : PySem.W.codeIn K cd20 "check_single" = true) (k20 : PySem.W.keepIn K (.ref f20) = true)
    (a21 : PySem.W.nsIn K mainGlobals "turned" = some (some (.ref f21)))
    (l21 : K.lookup f21 = some ⟨oc21, od21, .func (PySem.W.fnOf "turned" "turned" (defArgs s_turned) (defBody s_turned) (defScope s_turned) .none kV21 dc21 pm21 an21 cd21 ct21), sl21⟩)
    (c21 : PySem.W.codeIn K cd21 "turned" = true) (k21 : PySem.W.keepIn K (.ref f21) = true)
    (a22 : PySem.W.nsIn K mainGlobals "gone_up" = some (some (.ref f22)))
    (l22 : K.lookup f22 = some ⟨oc22, od22, .func (PySem.W.fnOf "gone_up" "gone_up" (defArgs s_gone_up) (defBody s_gone_up) (defScope s_gone_up) .none kV22 dc22 pm22 an22 cd22 ct22), sl22⟩)
    (c22 : PySem.W.codeIn K cd22 "gone_up" = true) (k22 : PySem.W.keepIn K (.ref f22) = true)
    (a23 : PySem.W.nsIn K mainGlobals "gone_back" = some (some (.ref f23)))
    (l23 : K.lookup f23 = some ⟨oc23, od23, .func (PySem.W.fnOf "gone_back" "gone_back" (defArgs s_gone_back) (defBody s_gone_back) (defScope s_gone_back) .none kV23 dc23 pm23 an23 cd23 ct23), sl23⟩)
    (c23 : PySem.W.codeIn K cd23 "gone_back" = true) (k23 : PySem.W.keepIn K (.ref f23) = true)
    (a24 : PySem.W.nsIn K mainGlobals "_law_well" = some (some (.ref f24)))
    (l24 : K.lookup f24 = some ⟨oc24, od24, .func (PySem.W.fnOf "_law_well" "_law_well" (defArgs s_law_well) (defBody s_law_well) (defScope s_law_well) .none kV24 dc24 pm24 an24 cd24 ct24), sl24⟩)
    (c24 : PySem.W.codeIn K cd24 "_law_well" = true) (k24 : PySem.W.keepIn K (.ref f24) = true)
    (a25 : PySem.W.nsIn K mainGlobals "_law_draw" = some (some (.ref f25)))
    (l25 : K.lookup f25 = some ⟨oc25, od25, .func (PySem.W.fnOf "_law_draw" "_law_draw" (defArgs s_law_draw) (defBody s_law_draw) (defScope s_law_draw) .none kV25 dc25 pm25 an25 cd25 ct25), sl25⟩)
    (c25 : PySem.W.codeIn K cd25 "_law_draw" = true) (k25 : PySem.W.keepIn K (.ref f25) = true)
    (a26 : PySem.W.nsIn K mainGlobals "_law_top" = some (some (.ref f26)))
    (l26 : K.lookup f26 = some ⟨oc26, od26, .func (PySem.W.fnOf "_law_top" "_law_top" (defArgs s_law_top) (defBody s_law_top) (defScope s_law_top) .none kV26 dc26 pm26 an26 cd26 ct26), sl26⟩)
    (c26 : PySem.W.codeIn K cd26 "_law_top" = true) (k26 : PySem.W.keepIn K (.ref f26) = true)
    (a27 : PySem.W.nsIn K mainGlobals "_law_bit_row" = some (some (.ref f27)))
    (l27 : K.lookup f27 = some ⟨oc27, od27, .func (PySem.W.fnOf "_law_bit_row" "_law_bit_row" (defArgs s_law_bit_row) (defBody s_law_bit_row) (defScope s_law_bit_row) .none kV27 dc27 pm27 an27 cd27 ct27), sl27⟩)
    (c27 : PySem.W.codeIn K cd27 "_law_bit_row" = true) (k27 : PySem.W.keepIn K (.ref f27) = true)
    (a28 : PySem.W.nsIn K mainGlobals "_law_worth" = some (some (.ref f28)))
    (l28 : K.lookup f28 = some ⟨oc28, od28, .func (PySem.W.fnOf "_law_worth" "_law_worth" (defArgs s_law_worth) (defBody s_law_worth) (defScope s_law_worth) .none kV28 dc28 pm28 an28 cd28 ct28), sl28⟩)
    (c28 : PySem.W.codeIn K cd28 "_law_worth" = true) (k28 : PySem.W.keepIn K (.ref f28) = true)
    (a29 : PySem.W.nsIn K mainGlobals "_law_least_width" = some (some (.ref f29)))
    (l29 : K.lookup f29 = some ⟨oc29, od29, .func (PySem.W.fnOf "_law_least_width" "_law_least_width" (defArgs s_law_least_width) (defBody s_law_least_width) (defScope s_law_least_width) .none kV29 dc29 pm29 an29 cd29 ct29), sl29⟩)
    (c29 : PySem.W.codeIn K cd29 "_law_least_width" = true) (k29 : PySem.W.keepIn K (.ref f29) = true)
    (a30 : PySem.W.nsIn K mainGlobals "_law_pair_right" = some (some (.ref f30)))
    (l30 : K.lookup f30 = some ⟨oc30, od30, .func (PySem.W.fnOf "_law_pair_right" "_law_pair_right" (defArgs s_law_pair_right) (defBody s_law_pair_right) (defScope s_law_pair_right) .none kV30 dc30 pm30 an30 cd30 ct30), sl30⟩)
    (c30 : PySem.W.codeIn K cd30 "_law_pair_right" = true) (k30 : PySem.W.keepIn K (.ref f30) = true)
    (a31 : PySem.W.nsIn K mainGlobals "_law_back" = some (some (.ref f31)))
    (l31 : K.lookup f31 = some ⟨oc31, od31, .func (PySem.W.fnOf "_law_back" "_law_back" (defArgs s_law_back) (defBody s_law_back) (defScope s_law_back) .none kV31 dc31 pm31 an31 cd31 ct31), sl31⟩)
    (c31 : PySem.W.codeIn K cd31 "_law_back" = true) (k31 : PySem.W.keepIn K (.ref f31) = true)
    (a32 : PySem.W.nsIn K mainGlobals "_law_single_right" = some (some (.ref f32)))
    (l32 : K.lookup f32 = some ⟨oc32, od32, .func (PySem.W.fnOf "_law_single_right" "_law_single_right" (defArgs s_law_single_right) (defBody s_law_single_right) (defScope s_law_single_right) .none kV32 dc32 pm32 an32 cd32 ct32), sl32⟩)
    (c32 : PySem.W.codeIn K cd32 "_law_single_right" = true) (k32 : PySem.W.keepIn K (.ref f32) = true)
    (a33 : PySem.W.nsIn K mainGlobals "law" = some (some (.ref f33)))
    (l33 : K.lookup f33 = some ⟨oc33, od33, .func (PySem.W.fnOf "law" "law" (defArgs s_law) (defBody s_law) (defScope s_law) .none kV33 dc33 pm33 an33 cd33 ct33), sl33⟩)
    (c33 : PySem.W.codeIn K cd33 "law" = true) (k33 : PySem.W.keepIn K (.ref f33) = true)
    (oa_Walk : PySem.W.nsIn K mainGlobals "Walk" = some (some (.ref CWalk)))
    (ma_Walk___init__ : PySem.W.findIn K (.ref CWalk) "__init__" = some (some (.ref fWalk___init__)))
    (mi_Walk___init__ : PySem.W.isFn K (.ref fWalk___init__) = true)
    (ml_Walk___init__ : K.lookup fWalk___init__ = some ⟨ocWalk___init__, odWalk___init__, .func (PySem.W.fnOf "__init__" "Walk.__init__" (defArgs sWalk___init__) (defBody sWalk___init__) (defScope sWalk___init__) .none kVWalk___init__ dcWalk___init__ pmWalk___init__ anWalk___init__ cdWalk___init__ ctWalk___init__), slWalk___init__⟩)
    (mc_Walk___init__ : PySem.W.codeIn K cdWalk___init__ "Walk.__init__" = true)
    (mk_Walk___init__ : PySem.W.keepIn K (.ref fWalk___init__) = true)
    (ma_Walk_meet : PySem.W.findIn K (.ref CWalk) "meet" = some (some (.ref fWalk_meet)))
    (mi_Walk_meet : PySem.W.isFn K (.ref fWalk_meet) = true)
    (ml_Walk_meet : K.lookup fWalk_meet = some ⟨ocWalk_meet, odWalk_meet, .func (PySem.W.fnOf "meet" "Walk.meet" (defArgs sWalk_meet) (defBody sWalk_meet) (defScope sWalk_meet) .none kVWalk_meet dcWalk_meet pmWalk_meet anWalk_meet cdWalk_meet ctWalk_meet), slWalk_meet⟩)
    (mc_Walk_meet : PySem.W.codeIn K cdWalk_meet "Walk.meet" = true)
    (mk_Walk_meet : PySem.W.keepIn K (.ref fWalk_meet) = true)
    (ma_Walk_bits_to : PySem.W.findIn K (.ref CWalk) "bits_to" = some (some (.ref fWalk_bits_to)))
    (mi_Walk_bits_to : PySem.W.isFn K (.ref fWalk_bits_to) = true)
    (ml_Walk_bits_to : K.lookup fWalk_bits_to = some ⟨ocWalk_bits_to, odWalk_bits_to, .func (PySem.W.fnOf "bits_to" "Walk.bits_to" (defArgs sWalk_bits_to) (defBody sWalk_bits_to) (defScope sWalk_bits_to) .none kVWalk_bits_to dcWalk_bits_to pmWalk_bits_to anWalk_bits_to cdWalk_bits_to ctWalk_bits_to), slWalk_bits_to⟩)
    (mc_Walk_bits_to : PySem.W.codeIn K cdWalk_bits_to "Walk.bits_to" = true)
    (mk_Walk_bits_to : PySem.W.keepIn K (.ref fWalk_bits_to) = true)
    (pg_Walk : PySem.W.plainGet K CWalk Str.empty = true)
    (hd_Walk : PySem.W.hasDictIn K CWalk = true)
    (po_Walk : PySem.W.plainOver K CWalk = true)
    (sa_Walk : PySem.W.findIn K (.ref CWalk) "__setattr__" = some (some (.builtin "object.__setattr__")))
    (mk_Walk : PySem.W.makesIn K CWalk = true)
    (kc_Walk : PySem.W.keepIn K (.ref CWalk) = true)
    (na_Walk_met : PySem.W.findIn K (.ref CWalk) "met" = some none)
    (na_Walk_numbers : PySem.W.findIn K (.ref CWalk) "numbers" = some none)
    (na_Walk_ways : PySem.W.findIn K (.ref CWalk) "ways" = some none)
    (v_EVEN : PySem.W.nsIn K mainGlobals "EVEN" = some (some (.int 0 t_EVEN)))
    (v_BELOW : PySem.W.nsIn K mainGlobals "BELOW" = some (some (.int 1 t_BELOW)))
    (v_ABOVE : PySem.W.nsIn K mainGlobals "ABOVE" = some (some (.int 2 t_ABOVE)))
    (a_WideError : PySem.W.nsIn K mainGlobals "WideError" = some (some (.ref cWideError)))
    (x_WideError : PySem.W.excIn K cWideError [.type "ValueError", .type "Exception", .type "BaseException", .type "object"] "ValueError.__new__" = true)
    (k_WideError : PySem.W.keepIn K (.ref cWideError) = true)
    (e1_WideError : PySem.W.findIn K (.ref cWideError) "__getattribute__" = some (some (.builtin "BaseException.__getattribute__")))
    (e2_WideError : PySem.W.findIn K (.ref cWideError) "__getattr__" = some none)
    (e3_WideError : PySem.W.subIn K (.ref cWideError) (.type "BaseException") = some true)
    (e4_WideError : PySem.W.hasDictIn K cWideError = true)
    (e5_WideError : PySem.W.findIn K (.ref cWideError) "__class__" = some (some (.builtin "object.__class__")))
    (e6_WideError : PySem.W.specialIn K (.builtin "object.__class__") "__get__" = some (some (.builtin "getset_descriptor.__get__")))
    (e7_WideError : PySem.W.takesIn K (.builtin "object.__class__") = some true)
    (e8_WideError : PySem.W.mroIn K cWideError (.type "object") = some true)
    (e9_WideError : PySem.W.isClsIn K cWideError = true)
    (e10_WideError : PySem.W.typeIn K (.ref cWideError) = some (.type "type"))
    (e11_WideError : PySem.W.subIn K (.ref cWideError) (.type "ValueError") = some true)
    (a_NoRow : PySem.W.nsIn K mainGlobals "NoRow" = some (some (.ref cNoRow)))
    (x_NoRow : PySem.W.excIn K cNoRow [.type "ValueError", .type "Exception", .type "BaseException", .type "object"] "ValueError.__new__" = true)
    (k_NoRow : PySem.W.keepIn K (.ref cNoRow) = true)
    (e1_NoRow : PySem.W.findIn K (.ref cNoRow) "__getattribute__" = some (some (.builtin "BaseException.__getattribute__")))
    (e2_NoRow : PySem.W.findIn K (.ref cNoRow) "__getattr__" = some none)
    (e3_NoRow : PySem.W.subIn K (.ref cNoRow) (.type "BaseException") = some true)
    (e4_NoRow : PySem.W.hasDictIn K cNoRow = true)
    (e5_NoRow : PySem.W.findIn K (.ref cNoRow) "__class__" = some (some (.builtin "object.__class__")))
    (e6_NoRow : PySem.W.specialIn K (.builtin "object.__class__") "__get__" = some (some (.builtin "getset_descriptor.__get__")))
    (e7_NoRow : PySem.W.takesIn K (.builtin "object.__class__") = some true)
    (e8_NoRow : PySem.W.mroIn K cNoRow (.type "object") = some true)
    (e9_NoRow : PySem.W.isClsIn K cNoRow = true)
    (e10_NoRow : PySem.W.typeIn K (.ref cNoRow) = some (.type "type"))
    (e11_NoRow : PySem.W.subIn K (.ref cNoRow) (.type "ValueError") = some true)
    (a_NoPair : PySem.W.nsIn K mainGlobals "NoPair" = some (some (.ref cNoPair)))
    (x_NoPair : PySem.W.excIn K cNoPair [.type "ValueError", .type "Exception", .type "BaseException", .type "object"] "ValueError.__new__" = true)
    (k_NoPair : PySem.W.keepIn K (.ref cNoPair) = true)
    (e1_NoPair : PySem.W.findIn K (.ref cNoPair) "__getattribute__" = some (some (.builtin "BaseException.__getattribute__")))
    (e2_NoPair : PySem.W.findIn K (.ref cNoPair) "__getattr__" = some none)
    (e3_NoPair : PySem.W.subIn K (.ref cNoPair) (.type "BaseException") = some true)
    (e4_NoPair : PySem.W.hasDictIn K cNoPair = true)
    (e5_NoPair : PySem.W.findIn K (.ref cNoPair) "__class__" = some (some (.builtin "object.__class__")))
    (e6_NoPair : PySem.W.specialIn K (.builtin "object.__class__") "__get__" = some (some (.builtin "getset_descriptor.__get__")))
    (e7_NoPair : PySem.W.takesIn K (.builtin "object.__class__") = some true)
    (e8_NoPair : PySem.W.mroIn K cNoPair (.type "object") = some true)
    (e9_NoPair : PySem.W.isClsIn K cNoPair = true)
    (e10_NoPair : PySem.W.typeIn K (.ref cNoPair) = some (.type "type"))
    (e11_NoPair : PySem.W.subIn K (.ref cNoPair) (.type "ValueError") = some true)
    (s_WideError_WideError : PySem.W.subIn K (.ref cWideError) (.ref cWideError) = some true)
    (s_WideError_NoRow : PySem.W.subIn K (.ref cWideError) (.ref cNoRow) = some false)
    (s_WideError_NoPair : PySem.W.subIn K (.ref cWideError) (.ref cNoPair) = some false)
    (s_NoRow_WideError : PySem.W.subIn K (.ref cNoRow) (.ref cWideError) = some true)
    (s_NoRow_NoRow : PySem.W.subIn K (.ref cNoRow) (.ref cNoRow) = some true)
    (s_NoRow_NoPair : PySem.W.subIn K (.ref cNoRow) (.ref cNoPair) = some false)
    (s_NoPair_WideError : PySem.W.subIn K (.ref cNoPair) (.ref cWideError) = some true)
    (s_NoPair_NoRow : PySem.W.subIn K (.ref cNoPair) (.ref cNoRow) = some false)
    (s_NoPair_NoPair : PySem.W.subIn K (.ref cNoPair) (.ref cNoPair) = some true)
    (z_abs : PySem.W.nsIn K mainGlobals "abs" = some none)
    (z_enumerate : PySem.W.nsIn K mainGlobals "enumerate" = some none)
    (z_int : PySem.W.nsIn K mainGlobals "int" = some none)
    (z_len : PySem.W.nsIn K mainGlobals "len" = some none)
    (z_list : PySem.W.nsIn K mainGlobals "list" = some none)
    (z_max : PySem.W.nsIn K mainGlobals "max" = some none)
    (z_min : PySem.W.nsIn K mainGlobals "min" = some none)
    (z_range : PySem.W.nsIn K mainGlobals "range" = some none)
    (z_repr : PySem.W.nsIn K mainGlobals "repr" = some none)
    (z_tuple : PySem.W.nsIn K mainGlobals "tuple" = some none)
    (z_zip : PySem.W.nsIn K mainGlobals "zip" = some none)
    : ∀ (s : Shared) (a : Addr) (ns : List Int) (base : Heap) (H : Hp), ns.length ≤ 63 → (∀ z ∈ ns, Builtin.Int.intBits z ≤ 1048576) → Env0 l.prog w K mg base callerA [] s H → SqL K H a (ns.map V.int) →
      codeAny (model l.prog w) callerA (.call (.ref fa) ⟨[.ref a], []⟩) (CR CX0 [] l.prog w H s (fun v _ => v = .bl true) E0) s := by
  have F_all_bits := fun_mk (st := s_all_bits) l0 c0 k0
  have b_all_bits := F_all_bits.binds (ps := ["many"]) fun _ _ _ _ _ _ us hl => by
    obtain ⟨_, rfl⟩ := awL1 hl
    rfl
  have g_all_bits := PySem.W.mg_of X G a0
  have F_first_carry := fun_mk (st := s_first_carry) l1 c1 k1
  have b_first_carry := F_first_carry.binds (ps := ["row"]) fun _ _ _ _ _ _ us hl => by
    obtain ⟨_, rfl⟩ := awL1 hl
    rfl
  have g_first_carry := PySem.W.mg_of X G a1
  have F_deed_bit := fun_mk (st := s_deed_bit) l2 c2 k2
  have b_deed_bit := F_deed_bit.binds (ps := ["deed", "held", "told"]) fun _ _ _ _ _ _ us hl => by
    obtain ⟨_, _, _, rfl⟩ := awL3 hl
    rfl
  have g_deed_bit := PySem.W.mg_of X G a2
  have F_bits_of := fun_mk (st := s_bits_of) l3 c3 k3
  have b_bits_of := F_bits_of.binds (ps := ["row", "carry", "bits"]) fun _ _ _ _ _ _ us hl => by
    obtain ⟨_, _, _, rfl⟩ := awL3 hl
    rfl
  have g_bits_of := PySem.W.mg_of X G a3
  have F_two_or_more := fun_mk (st := s_two_or_more) l4 c4 k4
  have b_two_or_more := F_two_or_more.binds (ps := ["one", "other", "third"]) fun _ _ _ _ _ _ us hl => by
    obtain ⟨_, _, _, rfl⟩ := awL3 hl
    rfl
  have g_two_or_more := PySem.W.mg_of X G a4
  have F_deed_carry := fun_mk (st := s_deed_carry) l5 c5 k5
  have b_deed_carry := F_deed_carry.binds (ps := ["deed", "held", "told"]) fun _ _ _ _ _ _ us hl => by
    obtain ⟨_, _, _, rfl⟩ := awL3 hl
    rfl
  have g_deed_carry := PySem.W.mg_of X G a5
  have F_carry_behind := fun_mk (st := s_carry_behind) l6 c6 k6
  have b_carry_behind := F_carry_behind.binds (ps := ["row", "carry", "told"]) fun _ _ _ _ _ _ us hl => by
    obtain ⟨_, _, _, rfl⟩ := awL3 hl
    rfl
  have g_carry_behind := PySem.W.mg_of X G a6
  have F_steps := fun_mk (st := s_steps) l7 c7 k7
  have b_steps := F_steps.binds (ps := ["row", "carry"]) fun _ _ _ _ _ _ us hl => by
    obtain ⟨_, _, rfl⟩ := awL2 hl
    rfl
  have g_steps := PySem.W.mg_of X G a7
  have F_kept_steps := fun_mk (st := s_kept_steps) l8 c8 k8
  have b_kept_steps := F_kept_steps.binds (ps := ["kept", "row", "carry"]) fun _ _ _ _ _ _ us hl => by
    obtain ⟨_, _, _, rfl⟩ := awL3 hl
    rfl
  have g_kept_steps := PySem.W.mg_of X G a8
  have F_both_steps := fun_mk (st := s_both_steps) l9 c9 k9
  have b_both_steps := F_both_steps.binds (ps := ["ones", "others"]) fun _ _ _ _ _ _ us hl => by
    obtain ⟨_, _, rfl⟩ := awL2 hl
    rfl
  have g_both_steps := PySem.W.mg_of X G a9
  have F_words_of := fun_mk (st := s_words_of) l10 c10 k10
  have b_words_of := F_words_of.binds (ps := ["many", "columns"]) fun _ _ _ _ _ _ us hl => by
    obtain ⟨_, _, rfl⟩ := awL2 hl
    rfl
  have g_words_of := PySem.W.mg_of X G a10
  have F_check_pair := fun_mk (st := s_check_pair) l11 c11 k11
  have b_check_pair := F_check_pair.binds (ps := ["row", "other"]) fun _ _ _ _ _ _ us hl => by
    obtain ⟨_, _, rfl⟩ := awL2 hl
    rfl
  have g_check_pair := PySem.W.mg_of X G a11
  have F_alike := fun_mk (st := s_alike) l12 c12 k12
  have b_alike := F_alike.binds (ps := ["row", "other"]) fun _ _ _ _ _ _ us hl => by
    obtain ⟨_, _, rfl⟩ := awL2 hl
    rfl
  have g_alike := PySem.W.mg_of X G a12
  have F_sign_behind := fun_mk (st := s_sign_behind) l13 c13 k13
  have b_sign_behind := F_sign_behind.binds (ps := ["sign", "bit", "others_bit"]) fun _ _ _ _ _ _ us hl => by
    obtain ⟨_, _, _, rfl⟩ := awL3 hl
    rfl
  have g_sign_behind := PySem.W.mg_of X G a13
  have F_triples_behind := fun_mk (st := s_triples_behind) l14 c14 k14
  have b_triples_behind := F_triples_behind.binds (ps := ["sign", "both"]) fun _ _ _ _ _ _ us hl => by
    obtain ⟨_, _, rfl⟩ := awL2 hl
    rfl
  have g_triples_behind := PySem.W.mg_of X G a14
  have F_at_most := fun_mk (st := s_at_most) l15 c15 k15
  have b_at_most := F_at_most.binds (ps := ["row", "other"]) fun _ _ _ _ _ _ us hl => by
    obtain ⟨_, _, rfl⟩ := awL2 hl
    rfl
  have g_at_most := PySem.W.mg_of X G a15
  have F_whole_machine := fun_mk (st := s_whole_machine) l16 c16 k16
  have b_whole_machine := F_whole_machine.binds (ps := ["row"]) fun _ _ _ _ _ _ us hl => by
    obtain ⟨_, rfl⟩ := awL1 hl
    rfl
  have g_whole_machine := PySem.W.mg_of X G a16
  have F_numbered := fun_mk (st := s_numbered) l17 c17 k17
  have b_numbered := F_numbered.binds (ps := ["looks"]) fun _ _ _ _ _ _ us hl => by
    obtain ⟨_, rfl⟩ := awL1 hl
    rfl
  have g_numbered := PySem.W.mg_of X G a17
  have F_kinds_of_states := fun_mk (st := s_kinds_of_states) l18 c18 k18
  have b_kinds_of_states := F_kinds_of_states.binds (ps := ["machine"]) fun _ _ _ _ _ _ us hl => by
    obtain ⟨_, rfl⟩ := awL1 hl
    rfl
  have g_kinds_of_states := PySem.W.mg_of X G a18
  have F_least_machine := fun_mk (st := s_least_machine) l19 c19 k19
  have b_least_machine := F_least_machine.binds (ps := ["row"]) fun _ _ _ _ _ _ us hl => by
    obtain ⟨_, rfl⟩ := awL1 hl
    rfl
  have g_least_machine := PySem.W.mg_of X G a19
  have F_check_single := fun_mk (st := s_check_single) l20 c20 k20
  have b_check_single := F_check_single.binds (ps := ["row"]) fun _ _ _ _ _ _ us hl => by
    obtain ⟨_, rfl⟩ := awL1 hl
    rfl
  have g_check_single := PySem.W.mg_of X G a20
  have F_turned := fun_mk (st := s_turned) l21 c21 k21
  have b_turned := F_turned.binds (ps := ["row"]) fun _ _ _ _ _ _ us hl => by
    obtain ⟨_, rfl⟩ := awL1 hl
    rfl
  have g_turned := PySem.W.mg_of X G a21
  have F_gone_up := fun_mk (st := s_gone_up) l22 c22 k22
  have b_gone_up := F_gone_up.binds (ps := ["row", "kept", "least", "place", "wanted"]) fun _ _ _ _ _ _ us hl => by
    obtain ⟨_, _, _, _, _, rfl⟩ := awL5 hl
    rfl
  have g_gone_up := PySem.W.mg_of X G a22
  have F_gone_back := fun_mk (st := s_gone_back) l23 c23 k23
  have b_gone_back := F_gone_back.binds (ps := ["row", "width", "word"]) fun _ _ _ _ _ _ us hl => by
    obtain ⟨_, _, _, rfl⟩ := awL3 hl
    rfl
  have g_gone_back := PySem.W.mg_of X G a23
  have F_law_well := fun_mk (st := s_law_well) l24 c24 k24
  have b_law_well := F_law_well.binds (ps := ["script"]) fun _ _ _ _ _ _ us hl => by
    obtain ⟨_, rfl⟩ := awL1 hl
    rfl
  have g_law_well := PySem.W.mg_of X G a24
  have F_law_draw := fun_mk (st := s_law_draw) l25 c25 k25
  have b_law_draw := F_law_draw.binds (ps := ["well", "many"]) fun _ _ _ _ _ _ us hl => by
    obtain ⟨_, _, rfl⟩ := awL2 hl
    rfl
  have g_law_draw := PySem.W.mg_of X G a25
  have F_law_top := fun_mk (st := s_law_top) l26 c26 k26
  have b_law_top := F_law_top.binds (ps := ["width"]) fun _ _ _ _ _ _ us hl => by
    obtain ⟨_, rfl⟩ := awL1 hl
    rfl
  have g_law_top := PySem.W.mg_of X G a26
  have F_law_bit_row := fun_mk (st := s_law_bit_row) l27 c27 k27
  have b_law_bit_row := F_law_bit_row.binds (ps := ["many", "at", "k", "word"]) fun _ _ _ _ _ _ us hl => by
    obtain ⟨_, _, _, _, rfl⟩ := awL4 hl
    rfl
  have g_law_bit_row := PySem.W.mg_of X G a27
  have F_law_worth := fun_mk (st := s_law_worth) l28 c28 k28
  have b_law_worth := F_law_worth.binds (ps := ["word", "k", "width", "x"]) fun _ _ _ _ _ _ us hl => by
    obtain ⟨_, _, _, _, rfl⟩ := awL4 hl
    rfl
  have g_law_worth := PySem.W.mg_of X G a28
  have F_law_least_width := fun_mk (st := s_law_least_width) l29 c29 k29
  have b_law_least_width := F_law_least_width.binds (ps := ["one", "other", "k", "greater"]) fun _ _ _ _ _ _ us hl => by
    obtain ⟨_, _, _, _, rfl⟩ := awL4 hl
    rfl
  have g_law_least_width := PySem.W.mg_of X G a29
  have F_law_pair_right := fun_mk (st := s_law_pair_right) l30 c30 k30
  have b_law_pair_right := F_law_pair_right.binds (ps := ["rows", "names", "k", "at"]) fun _ _ _ _ _ _ us hl => by
    obtain ⟨_, _, _, _, rfl⟩ := awL4 hl
    rfl
  have g_law_pair_right := PySem.W.mg_of X G a30
  have F_law_back := fun_mk (st := s_law_back) l31 c31 k31
  have b_law_back := F_law_back.binds (ps := ["word", "k", "width", "y"]) fun _ _ _ _ _ _ us hl => by
    obtain ⟨_, _, _, _, rfl⟩ := awL4 hl
    rfl
  have g_law_back := PySem.W.mg_of X G a31
  have F_law_single_right := fun_mk (st := s_law_single_right) l32 c32 k32
  have b_law_single_right := F_law_single_right.binds (ps := ["well", "row", "word", "k"]) fun _ _ _ _ _ _ us hl => by
    obtain ⟨_, _, _, _, rfl⟩ := awL4 hl
    rfl
  have g_law_single_right := PySem.W.mg_of X G a32
  have F_law := fun_mk (st := s_law) l33 c33 k33
  have b_law := F_law.binds (ps := ["script"]) fun _ _ _ _ _ _ us hl => by
    obtain ⟨_, rfl⟩ := awL1 hl
    rfl
  obtain rfl : fa = f33 := by
    have e := hfa.symm.trans (PySem.W.mg_of X G a33)
    cases e
    rfl
  have FWalk___init__ := fun_mk (st := sWalk___init__) ml_Walk___init__ mc_Walk___init__ mk_Walk___init__
  have MWalk___init__ : Meth K CWalk "__init__" fWalk___init__ := ⟨ma_Walk___init__, mi_Walk___init__, mk_Walk___init__⟩
  have FWalk_meet := fun_mk (st := sWalk_meet) ml_Walk_meet mc_Walk_meet mk_Walk_meet
  have MWalk_meet : Meth K CWalk "meet" fWalk_meet := ⟨ma_Walk_meet, mi_Walk_meet, mk_Walk_meet⟩
  have FWalk_bits_to := fun_mk (st := sWalk_bits_to) ml_Walk_bits_to mc_Walk_bits_to mk_Walk_bits_to
  have MWalk_bits_to : Meth K CWalk "bits_to" fWalk_bits_to := ⟨ma_Walk_bits_to, mi_Walk_bits_to, mk_Walk_bits_to⟩
  have TWalk : Cls K CWalk := ⟨pg_Walk, hd_Walk, po_Walk, sa_Walk⟩
  have gWalk := PySem.W.mg_of X G oa_Walk
  have KWalk : Mk K CWalk fWalk___init__ := ⟨mk_Walk, ma_Walk___init__, mi_Walk___init__, kc_Walk⟩
  have g_EVEN := PySem.W.mg_of X G v_EVEN
  have g_BELOW := PySem.W.mg_of X G v_BELOW
  have g_ABOVE := PySem.W.mg_of X G v_ABOVE
  have g_WideError := PySem.W.mg_of X G a_WideError
  have X_WideError : ExcC K cWideError := ⟨e1_WideError, e2_WideError, e3_WideError, e4_WideError, e5_WideError, e6_WideError, e7_WideError, e8_WideError⟩
  have g_NoRow := PySem.W.mg_of X G a_NoRow
  have X_NoRow : ExcC K cNoRow := ⟨e1_NoRow, e2_NoRow, e3_NoRow, e4_NoRow, e5_NoRow, e6_NoRow, e7_NoRow, e8_NoRow⟩
  have g_NoPair := PySem.W.mg_of X G a_NoPair
  have X_NoPair : ExcC K cNoPair := ⟨e1_NoPair, e2_NoPair, e3_NoPair, e4_NoPair, e5_NoPair, e6_NoPair, e7_NoPair, e8_NoPair⟩
  have t_WideError_WideError := kit_ref e9_WideError e10_WideError s_WideError_WideError s_WideError_WideError
  have t_WideError_NoRow := kit_ref e9_NoRow e10_NoRow s_WideError_NoRow s_NoRow_NoRow
  have t_WideError_NoPair := kit_ref e9_NoPair e10_NoPair s_WideError_NoPair s_NoPair_NoPair
  have v_WideError := kit_ve e11_WideError
  have t_NoRow_WideError := kit_ref e9_WideError e10_WideError s_NoRow_WideError s_WideError_WideError
  have t_NoRow_NoRow := kit_ref e9_NoRow e10_NoRow s_NoRow_NoRow s_NoRow_NoRow
  have t_NoRow_NoPair := kit_ref e9_NoPair e10_NoPair s_NoRow_NoPair s_NoPair_NoPair
  have v_NoRow := kit_ve e11_NoRow
  have t_NoPair_WideError := kit_ref e9_WideError e10_WideError s_NoPair_WideError s_WideError_WideError
  have t_NoPair_NoRow := kit_ref e9_NoRow e10_NoRow s_NoPair_NoRow s_NoRow_NoRow
  have t_NoPair_NoPair := kit_ref e9_NoPair e10_NoPair s_NoPair_NoPair s_NoPair_NoPair
  have v_NoPair := kit_ve e11_NoPair
  have m_abs := PySem.W.mg_none_of X G z_abs
  have m_enumerate := PySem.W.mg_none_of X G z_enumerate
  have m_int := PySem.W.mg_none_of X G z_int
  have m_len := PySem.W.mg_none_of X G z_len
  have m_list := PySem.W.mg_none_of X G z_list
  have m_max := PySem.W.mg_none_of X G z_max
  have m_min := PySem.W.mg_none_of X G z_min
  have m_range := PySem.W.mg_none_of X G z_range
  have m_repr := PySem.W.mg_none_of X G z_repr
  have m_tuple := PySem.W.mg_none_of X G z_tuple
  have m_zip := PySem.W.mg_none_of X G z_zip
  intro s a ns base H hlen hbits e0 hS
  have GD := ok_draw (P := l.prog) (w := w) (mg := mg) (base := base) (k := 0) F_law_draw
  have GW := ok_well (P := l.prog) (w := w) (mg := mg) (base := base) (k := 0) F_law_well m_abs
  have GF := ok_fc (P := l.prog) (w := w) (mg := mg) (base := base) (k := 0) F_first_carry m_tuple
  have GDb := ok_db (P := l.prog) (w := w) (mg := mg) (base := base) (k := 0) F_deed_bit
  have GB := ok_bo (P := l.prog) (w := w) (mg := mg) (base := base) (k := 0) F_bits_of GDb F_deed_bit.kp b_deed_bit g_deed_bit m_list m_tuple m_zip
  have GTm := ok_tm (P := l.prog) (w := w) (mg := mg) (base := base) (k := 0) F_two_or_more
  have GDc := ok_dc (P := l.prog) (w := w) (mg := mg) (base := base) (k := 0) F_deed_carry GTm F_two_or_more.kp b_two_or_more g_two_or_more
  have GCb := ok_cb (P := l.prog) (w := w) (mg := mg) (base := base) (k := 0) F_carry_behind GDc F_deed_carry.kp b_deed_carry g_deed_carry m_tuple m_zip
  have GAl := ok_all (P := l.prog) (w := w) (mg := mg) (base := base) (k := 0) F_all_bits m_range
  have GSt := ok_st (P := l.prog) (w := w) (mg := mg) (base := base) (k := 0) F_steps GAl F_all_bits.kp b_all_bits g_all_bits GB F_bits_of.kp b_bits_of g_bits_of GCb F_carry_behind.kp b_carry_behind g_carry_behind
  have WT : WCls K mg CWalk := ⟨TWalk, na_Walk_met, na_Walk_numbers, na_Walk_ways, gWalk⟩
  have bI := FWalk___init__.binds (ps := ["self", "first"]) fun _ _ _ _ _ _ us hl => by
    obtain ⟨_, _, rfl⟩ := awL2 hl
    rfl
  have bM := FWalk_meet.binds (ps := ["self", "thing", "ahead", "bits"]) fun _ _ _ _ _ _ us hl => by
    obtain ⟨_, _, _, _, rfl⟩ := awL4 hl
    rfl
  have bTo := FWalk_bits_to.binds (ps := ["self", "number"]) fun _ _ _ _ _ _ us hl => by
    obtain ⟨_, _, rfl⟩ := awL2 hl
    rfl
  have GI := ok_wi (P := l.prog) (w := w) (mg := mg) (base := base) (k := 0) FWalk___init__ WT
  have GM := ok_wm (P := l.prog) (w := w) (mg := mg) (base := base) (k := 0) FWalk_meet WT m_len
  have GTo := ok_bt (P := l.prog) (w := w) (mg := mg) (base := base) (k := 0) FWalk_bits_to WT
  have GWf := ok_wf (P := l.prog) (w := w) (mg := mg) (base := base) (k := 0) F_words_of m_enumerate
  have rR : Rai K mg "NoRow" cNoRow := ⟨x_NoRow, g_NoRow, k_NoRow, e3_NoRow, e10_NoRow⟩
  have GCx := ok_csX (P := l.prog) (w := w) (base := base) (k := 0) F_check_single rR
  have GTu := ok_tu (P := l.prog) (w := w) (mg := mg) (base := base) (k := 0) F_turned WT GCx F_check_single.kp b_check_single g_check_single GF F_first_carry.kp b_first_carry g_first_carry GSt F_steps.kp b_steps g_steps GWf F_words_of.kp b_words_of g_words_of KWalk GI bI MWalk_meet GM bM MWalk_bits_to GTo bTo m_len
  have GKs := ok_ks (P := l.prog) (w := w) (mg := mg) (base := base) (k := 0) F_kept_steps GSt F_steps.kp b_steps g_steps
  have GCs := ok_cs (P := l.prog) (w := w) (mg := mg) (base := base) (k := 0) F_check_single
  have GGu := ok_gu (P := l.prog) (w := w) (mg := mg) (base := base) (k := 0) F_gone_up GKs F_kept_steps.kp b_kept_steps g_kept_steps m_enumerate m_min
  have GGb := ok_gb (P := l.prog) (w := w) (mg := mg) (base := base) (k := 0) F_gone_back GCs F_check_single.kp b_check_single g_check_single GF F_first_carry.kp b_first_carry g_first_carry GGu F_gone_up.kp b_gone_up g_gone_up m_range m_min
  have GBs := ok_bs2 (P := l.prog) (w := w) (mg := mg) (base := base) (k := 0) F_both_steps m_zip
  have rP : Rai K mg "NoPair" cNoPair := ⟨x_NoPair, g_NoPair, k_NoPair, e3_NoPair, e10_NoPair⟩
  have GCp := ok_cp (P := l.prog) (w := w) (base := base) (k := 0) F_check_pair rP
  have GAk := ok_al (P := l.prog) (w := w) (mg := mg) (base := base) (k := 0) F_alike WT GCp F_check_pair.kp b_check_pair g_check_pair GAl F_all_bits.kp b_all_bits g_all_bits GF F_first_carry.kp b_first_carry g_first_carry GBs F_both_steps.kp b_both_steps g_both_steps GKs F_kept_steps.kp b_kept_steps g_kept_steps GWf F_words_of.kp b_words_of g_words_of KWalk GI bI MWalk_meet GM bM MWalk_bits_to GTo bTo m_len m_zip
  have GSb := ok_sb (P := l.prog) (w := w) (mg := mg) (base := base) (k := 0) F_sign_behind g_ABOVE g_BELOW
  have GTb := ok_tb (P := l.prog) (w := w) (mg := mg) (base := base) (k := 0) F_triples_behind GSb F_sign_behind.kp b_sign_behind g_sign_behind
  have GAm := ok_am (P := l.prog) (w := w) (mg := mg) (base := base) (k := 0) F_at_most WT GCp F_check_pair.kp b_check_pair g_check_pair GAl F_all_bits.kp b_all_bits g_all_bits GF F_first_carry.kp b_first_carry g_first_carry GBs F_both_steps.kp b_both_steps g_both_steps GKs F_kept_steps.kp b_kept_steps g_kept_steps GWf F_words_of.kp b_words_of g_words_of KWalk GI bI MWalk_meet GM bM MWalk_bits_to GTo bTo GTb F_triples_behind.kp b_triples_behind g_triples_behind g_EVEN g_ABOVE m_len m_zip
  have GWh := ok_wh (P := l.prog) (w := w) (mg := mg) (base := base) (k := 0) F_whole_machine WT GAl F_all_bits.kp b_all_bits g_all_bits GF F_first_carry.kp b_first_carry g_first_carry GSt F_steps.kp b_steps g_steps KWalk GI bI MWalk_meet GM bM m_len m_zip
  have GN := ok_nu (P := l.prog) (w := w) (mg := mg) (base := base) (k := 0) F_numbered m_len
  have GKi := ok_ki (P := l.prog) (w := w) (mg := mg) (base := base) (k := 0) F_kinds_of_states GN F_numbered.kp b_numbered g_numbered m_max m_tuple m_list m_zip
  have GLm := ok_lm (P := l.prog) (w := w) (mg := mg) (base := base) (k := 0) F_least_machine GWh F_whole_machine.kp b_whole_machine g_whole_machine GKi F_kinds_of_states.kp b_kinds_of_states g_kinds_of_states m_len m_zip
  have GT := ok_top (P := l.prog) (w := w) (mg := mg) (base := base) (k := 0) F_law_top m_range
  have GWo := ok_wo (P := l.prog) (w := w) (mg := mg) (base := base) (k := 0) F_law_worth GT F_law_top.kp b_law_top g_law_top m_int
  have GBr := ok_br (P := l.prog) (w := w) (mg := mg) (base := base) (k := 0) F_law_bit_row m_range m_tuple m_len
  have GLq := ok_lq (P := l.prog) (w := w) (mg := mg) (base := base) (k := 0) F_law_least_width GT F_law_top.kp b_law_top g_law_top GWo F_law_worth.kp b_law_worth g_law_worth
  have GBk := ok_bkw (P := l.prog) (w := w) (mg := mg) (base := base) (k := 0) F_law_back GT F_law_top.kp b_law_top g_law_top GWo F_law_worth.kp b_law_worth g_law_worth m_int m_min
  have GPq := ok_pq (P := l.prog) (w := w) (mg := mg) (base := base) (k := 0) F_law_pair_right GAk F_alike.kp b_alike g_alike GAm F_at_most.kp b_at_most g_at_most GLq F_law_least_width.kp b_law_least_width g_law_least_width GWo F_law_worth.kp b_law_worth g_law_worth m_zip m_int m_len
  have GSr := ok_sr (P := l.prog) (w := w) (mg := mg) (base := base) (k := 0) F_law_single_right GTu F_turned.kp b_turned g_turned GD F_law_draw.kp b_law_draw g_law_draw GT F_law_top.kp b_law_top g_law_top GGb F_gone_back.kp b_gone_back g_gone_back GBk F_law_back.kp b_law_back g_law_back GWo F_law_worth.kp b_law_worth g_law_worth m_int m_len m_min m_repr
  exact law_run F_law b_law GW F_law_well.kp b_law_well g_law_well GD F_law_draw.kp b_law_draw g_law_draw GBr F_law_bit_row.kp b_law_bit_row g_law_bit_row GPq F_law_pair_right.kp b_law_pair_right g_law_pair_right GLm F_least_machine.kp b_least_machine g_least_machine GSr F_law_single_right.kp b_law_single_right g_law_single_right m_len m_zip hlen hbits e0 hS
end
end KK
open PySem PySem.W PyProof.Rows
set_option maxHeartbeats 0 in
theorem PySem.Challenge.cw_anywide_k51_one_bit_far_up_holds : PySem.Challenge.rw_anywide_k51_one_bit_far_up.Holds := by
  w_on; o_law; k_head; (case hw => w_witness2)
  k_fill
  refine AW.walkG (l := PySem.Challenge.rw_anywide_k51_one_bit_far_up) (n := 63) rfl (by decide) rfl (fun w h Y => PySem.W.kIn_of Y) ?F
  case F =>
    intro w mg fa h KX G hmg
    refine' KK.all_mk KX G hmg ?a0 ?l0 ?c0 ?k0 ?a1 ?l1 ?c1 ?k1 ?a2 ?l2 ?c2 ?k2 ?a3 ?l3 ?c3 ?k3 ?a4 ?l4 ?c4 ?k4 ?a5 ?l5 ?c5 ?k5 ?a6 ?l6 ?c6 ?k6 ?a7 ?l7 ?c7 ?k7 ?a8 ?l8 ?c8 ?k8 ?a9 ?l9 ?c9 ?k9 ?a10 ?l10 ?c10 ?k10 ?a11 ?l11 ?c11 ?k11 ?a12 ?l12 ?c12 ?k12 ?a13 ?l13 ?c13 ?k13 ?a14 ?l14 ?c14 ?k14 ?a15 ?l15 ?c15 ?k15 ?a16 ?l16 ?c16 ?k16 ?a17 ?l17 ?c17 ?k17 ?a18 ?l18 ?c18 ?k18 ?a19 ?l19 ?c19 ?k19 ?a20 ?l20 ?c20 ?k20 ?a21 ?l21 ?c21 ?k21 ?a22 ?l22 ?c22 ?k22 ?a23 ?l23 ?c23 ?k23 ?a24 ?l24 ?c24 ?k24 ?a25 ?l25 ?c25 ?k25 ?a26 ?l26 ?c26 ?k26 ?a27 ?l27 ?c27 ?k27 ?a28 ?l28 ?c28 ?k28 ?a29 ?l29 ?c29 ?k29 ?a30 ?l30 ?c30 ?k30 ?a31 ?l31 ?c31 ?k31 ?a32 ?l32 ?c32 ?k32 ?a33 ?l33 ?c33 ?k33 ?oa_Walk ?ma_Walk___init__ ?mi_Walk___init__ ?ml_Walk___init__ ?mc_Walk___init__ ?mk_Walk___init__ ?ma_Walk_meet ?mi_Walk_meet ?ml_Walk_meet ?mc_Walk_meet ?mk_Walk_meet ?ma_Walk_bits_to ?mi_Walk_bits_to ?ml_Walk_bits_to ?mc_Walk_bits_to ?mk_Walk_bits_to ?pg_Walk ?hd_Walk ?po_Walk ?sa_Walk ?mk_Walk ?kc_Walk ?na_Walk_met ?na_Walk_numbers ?na_Walk_ways ?v_EVEN ?v_BELOW ?v_ABOVE ?a_WideError ?x_WideError ?k_WideError ?e1_WideError ?e2_WideError ?e3_WideError ?e4_WideError ?e5_WideError ?e6_WideError ?e7_WideError ?e8_WideError ?e9_WideError ?e10_WideError ?e11_WideError ?a_NoRow ?x_NoRow ?k_NoRow ?e1_NoRow ?e2_NoRow ?e3_NoRow ?e4_NoRow ?e5_NoRow ?e6_NoRow ?e7_NoRow ?e8_NoRow ?e9_NoRow ?e10_NoRow ?e11_NoRow ?a_NoPair ?x_NoPair ?k_NoPair ?e1_NoPair ?e2_NoPair ?e3_NoPair ?e4_NoPair ?e5_NoPair ?e6_NoPair ?e7_NoPair ?e8_NoPair ?e9_NoPair ?e10_NoPair ?e11_NoPair ?s_WideError_WideError ?s_WideError_NoRow ?s_WideError_NoPair ?s_NoRow_WideError ?s_NoRow_NoRow ?s_NoRow_NoPair ?s_NoPair_WideError ?s_NoPair_NoRow ?s_NoPair_NoPair ?z_abs ?z_enumerate ?z_int ?z_len ?z_list ?z_max ?z_min ?z_range ?z_repr ?z_tuple ?z_zip
    (case a0 => k_is)
    (case l0 => k_is)
    (case c0 => k_is)
    (case k0 => k_is)
    (case a1 => k_is)
    (case l1 => k_is)
    (case c1 => k_is)
    (case k1 => k_is)
    (case a2 => k_is)
    (case l2 => k_is)
    (case c2 => k_is)
    (case k2 => k_is)
    (case a3 => k_is)
    (case l3 => k_is)
    (case c3 => k_is)
    (case k3 => k_is)
    (case a4 => k_is)
    (case l4 => k_is)
    (case c4 => k_is)
    (case k4 => k_is)
    (case a5 => k_is)
    (case l5 => k_is)
    (case c5 => k_is)
    (case k5 => k_is)
    (case a6 => k_is)
    (case l6 => k_is)
    (case c6 => k_is)
    (case k6 => k_is)
    (case a7 => k_is)
    (case l7 => k_is)
    (case c7 => k_is)
    (case k7 => k_is)
    (case a8 => k_is)
    (case l8 => k_is)
    (case c8 => k_is)
    (case k8 => k_is)
    (case a9 => k_is)
    (case l9 => k_is)
    (case c9 => k_is)
    (case k9 => k_is)
    (case a10 => k_is)
    (case l10 => k_is)
    (case c10 => k_is)
    (case k10 => k_is)
    (case a11 => k_is)
    (case l11 => k_is)
    (case c11 => k_is)
    (case k11 => k_is)
    (case a12 => k_is)
    (case l12 => k_is)
    (case c12 => k_is)
    (case k12 => k_is)
    (case a13 => k_is)
    (case l13 => k_is)
    (case c13 => k_is)
    (case k13 => k_is)
    (case a14 => k_is)
    (case l14 => k_is)
    (case c14 => k_is)
    (case k14 => k_is)
    (case a15 => k_is)
    (case l15 => k_is)
    (case c15 => k_is)
    (case k15 => k_is)
    (case a16 => k_is)
    (case l16 => k_is)
    (case c16 => k_is)
    (case k16 => k_is)
    (case a17 => k_is)
    (case l17 => k_is)
    (case c17 => k_is)
    (case k17 => k_is)
    (case a18 => k_is)
    (case l18 => k_is)
    (case c18 => k_is)
    (case k18 => k_is)
    (case a19 => k_is)
    (case l19 => k_is)
    (case c19 => k_is)
    (case k19 => k_is)
    (case a20 => k_is)
    (case l20 => k_is)
    (case c20 => k_is)
    (case k20 => k_is)
    (case a21 => k_is)
    (case l21 => k_is)
    (case c21 => k_is)
    (case k21 => k_is)
    (case a22 => k_is)
    (case l22 => k_is)
    (case c22 => k_is)
    (case k22 => k_is)
    (case a23 => k_is)
    (case l23 => k_is)
    (case c23 => k_is)
    (case k23 => k_is)
    (case a24 => k_is)
    (case l24 => k_is)
    (case c24 => k_is)
    (case k24 => k_is)
    (case a25 => k_is)
    (case l25 => k_is)
    (case c25 => k_is)
    (case k25 => k_is)
    (case a26 => k_is)
    (case l26 => k_is)
    (case c26 => k_is)
    (case k26 => k_is)
    (case a27 => k_is)
    (case l27 => k_is)
    (case c27 => k_is)
    (case k27 => k_is)
    (case a28 => k_is)
    (case l28 => k_is)
    (case c28 => k_is)
    (case k28 => k_is)
    (case a29 => k_is)
    (case l29 => k_is)
    (case c29 => k_is)
    (case k29 => k_is)
    (case a30 => k_is)
    (case l30 => k_is)
    (case c30 => k_is)
    (case k30 => k_is)
    (case a31 => k_is)
    (case l31 => k_is)
    (case c31 => k_is)
    (case k31 => k_is)
    (case a32 => k_is)
    (case l32 => k_is)
    (case c32 => k_is)
    (case k32 => k_is)
    (case a33 => k_is)
    (case l33 => k_is)
    (case c33 => k_is)
    (case k33 => k_is)
    (case oa_Walk => k_is)
    (case ma_Walk___init__ => k_is)
    (case mi_Walk___init__ => k_is)
    (case ml_Walk___init__ => k_is)
    (case mc_Walk___init__ => k_is)
    (case mk_Walk___init__ => k_is)
    (case ma_Walk_meet => k_is)
    (case mi_Walk_meet => k_is)
    (case ml_Walk_meet => k_is)
    (case mc_Walk_meet => k_is)
    (case mk_Walk_meet => k_is)
    (case ma_Walk_bits_to => k_is)
    (case mi_Walk_bits_to => k_is)
    (case ml_Walk_bits_to => k_is)
    (case mc_Walk_bits_to => k_is)
    (case mk_Walk_bits_to => k_is)
    (case pg_Walk => k_is)
    (case hd_Walk => k_is)
    (case po_Walk => k_is)
    (case sa_Walk => k_is)
    (case mk_Walk => k_is)
    (case kc_Walk => k_is)
    (case na_Walk_met => k_is)
    (case na_Walk_numbers => k_is)
    (case na_Walk_ways => k_is)
    (case v_EVEN => k_is)
    (case v_BELOW => k_is)
    (case v_ABOVE => k_is)
    (case a_WideError => k_is)
    (case x_WideError => k_exc)
    (case k_WideError => k_is)
    (case e1_WideError => k_is)
    (case e2_WideError => k_is)
    (case e3_WideError => k_is)
    (case e4_WideError => k_is)
    (case e5_WideError => k_is)
    (case e6_WideError => k_is)
    (case e7_WideError => k_is)
    (case e8_WideError => k_is)
    (case e9_WideError => k_is)
    (case e10_WideError => k_is)
    (case e11_WideError => k_is)
    (case a_NoRow => k_is)
    (case x_NoRow => k_exc)
    (case k_NoRow => k_is)
    (case e1_NoRow => k_is)
    (case e2_NoRow => k_is)
    (case e3_NoRow => k_is)
    (case e4_NoRow => k_is)
    (case e5_NoRow => k_is)
    (case e6_NoRow => k_is)
    (case e7_NoRow => k_is)
    (case e8_NoRow => k_is)
    (case e9_NoRow => k_is)
    (case e10_NoRow => k_is)
    (case e11_NoRow => k_is)
    (case a_NoPair => k_is)
    (case x_NoPair => k_exc)
    (case k_NoPair => k_is)
    (case e1_NoPair => k_is)
    (case e2_NoPair => k_is)
    (case e3_NoPair => k_is)
    (case e4_NoPair => k_is)
    (case e5_NoPair => k_is)
    (case e6_NoPair => k_is)
    (case e7_NoPair => k_is)
    (case e8_NoPair => k_is)
    (case e9_NoPair => k_is)
    (case e10_NoPair => k_is)
    (case e11_NoPair => k_is)
    (case s_WideError_WideError => k_is)
    (case s_WideError_NoRow => k_is)
    (case s_WideError_NoPair => k_is)
    (case s_NoRow_WideError => k_is)
    (case s_NoRow_NoRow => k_is)
    (case s_NoRow_NoPair => k_is)
    (case s_NoPair_WideError => k_is)
    (case s_NoPair_NoRow => k_is)
    (case s_NoPair_NoPair => k_is)
    (case z_abs => k_is)
    (case z_enumerate => k_is)
    (case z_int => k_is)
    (case z_len => k_is)
    (case z_list => k_is)
    (case z_max => k_is)
    (case z_min => k_is)
    (case z_range => k_is)
    (case z_repr => k_is)
    (case z_tuple => k_is)
    (case z_zip => k_is)
