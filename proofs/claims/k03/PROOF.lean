import PyProof.Rows.All
import Wide.All
import OpenK.AllK
import Wide.FinOn
import PyProof.EqAt
import PyProof.EqKinds
import PyProof.TupleCall
import PyProof.ReprRoads
import PyProof.InstNe
import HandS.ForMost
import HandS.ForExc
import HandS.EndTab
import HandS.HeadHook4
import HandS.HeadWalk
import HandS.Head0
import HandS.Head1
import HandS.Head2
import HandS.ExcIs
import HandS.HotCalls
import HandS.IsInst
import HandS.Zip
import HandS.Walk
import HandS.TupAny
import HandS.Conv
import HandS.Deep
import HandS.OwnEq
import HandS.SetFor
import HandS.Defaults
import HandS.RaiseMore
import HandS.CallSlots
import KE.GoesMore
import PySem.Challenge.RW_bestsbook_k03_classes_of_ages
set_option Elab.async false
set_option linter.all false
set_option maxRecDepth 100000
set_option maxHeartbeats 2000000
namespace Bb
open PySem PySem.Spec PyProof.Rows L2

/-! repr of data that holds no dict -/
mutual
theorem dp_nodict {K : PySem.W.Frag} {H : Hp} : ∀ (d : PyData) (v : V), Dp K H v d → d.hasDict = false
  | .none, _, _ => rfl
  | .bool _, _, _ => rfl
  | .int _, _, _ => rfl
  | .str _, _, _ => rfl
  | .list ds, _, h => by
    cases h with
    | lst _ ha => exact dpall_nodict ds _ ha
  | .tuple ds, _, h => by
    cases h with
    | tup _ ha => exact dpall_nodict ds _ ha
  | .dict _, _, h => by cases h
theorem dpall_nodict {K : PySem.W.Frag} {H : Hp} : ∀ (ds : List PyData) (vs : List V), DpAll K H vs ds → PyData.hasDictAll ds = false
  | [], _, _ => rfl
  | d :: ds, _, h => by
    cases h with
    | cons h1 h2 =>
      show (PyData.hasDict d || PyData.hasDictAll ds) = false
      rw [dp_nodict d _ h1, dpall_nodict ds _ h2]
      rfl
end
def rRepr (K : PySem.W.Frag) : List V → Hp → VK → Prop := fun xs H Q => ∃ (x : V) (d : PyData), xs = [x] ∧ Dp K H x d ∧ d.showable = true ∧ d.depth ≤ 60 ∧ d.shown.length ≤ sizeLine ∧ Q (.str d.shown) H
theorem call_repr {X : Cx} (hg : X.A.guards = some []) (hu : X.A.units + 64 < cLine) : CallR X (.builtin "repr") (rRepr X.K) := by
  intro pins s σ H xs us Q I r h
  obtain ⟨x, d, rfl, hd, hs, hde, hz, q⟩ := h
  obtain ⟨u, rfl, ru⟩ := vals1 r
  have nd := dp_nodict d x hd
  obtain ⟨as, rd⟩ := Dp.reads I d x u hd ru
  cases hd with
  | non =>
    cases ru
    exact PySem.P.repr_of_none ⟨.str _, H, I.tok _, ⟨_, rfl⟩, q⟩
  | bl b =>
    cases ru
    exact PySem.P.repr_of_bool ⟨.str _, H, I.tok _, ⟨_, rfl⟩, q⟩
  | int i =>
    obtain ⟨t, rfl⟩ := ru
    exact PySem.P.repr_of_int (of_decide_eq_true hs) ⟨.str _, H, I.tok _, ⟨_, rfl⟩, q⟩
  | str z =>
    obtain ⟨t, rfl⟩ := ru
    exact PySem.P.repr_of_str ⟨.str _, H, I.tok _, ⟨_, rfl⟩, q⟩ hz
  | lst h1 h2 =>
    cases ru
    exact repr_of_reads' rd hs (fun z => by rw [nd] at z; cases z) hg (by omega) (fun _ _ e => e) (fun h' u' tk k => ⟨.str _, H, I.kept k, ⟨_, rfl⟩, q⟩) hz
  | tup h1 h2 =>
    cases ru
    exact repr_of_reads' rd hs (fun z => by rw [nd] at z; cases z) hg (by omega) (fun _ _ e => e) (fun h' u' tk k => ⟨.str _, H, I.kept k, ⟨_, rfl⟩, q⟩) hz
end Bb
set_option Elab.async false
set_option linter.all false
set_option maxRecDepth 100000
set_option maxHeartbeats 2000000
namespace Bb
open PySem PySem.Spec PyProof.Rows L2

/-! a def that is run where no repr is under way -/
structure FnG (P : Program) (w : World) (K : PySem.W.Frag) (mg : Str → Option Value) (base : Heap) (CX : CXT) (k : Nat) (f : Addr) (fd : FuncData) (ps : List Str) (sp : Sp) : Prop where
  args : ∀ vs H Q E, sp vs H Q E → vs.length = ps.length
  go : ∀ (A : Around) (outer : List Env) (s : Shared) (H : Hp) (ar : Args) (us : List Value) (vs : List V) (Q : VK) (E : XK), A.guards = some [] → Room k A → Env0 P w K mg base A outer s H → BindsTo s fd ar (ps.zip us) → Vals vs us → sp vs H Q E →
    codeAny (model P w) A (.call (.ref f) ar) (CR CX outer P w H s Q E) s

section
variable {P : Program} {w : World} {K : PySem.W.Frag} {mg : Str → Option Value} {base : Heap} {x qual : Str} {params : Arguments} {body : List Stmt} {scope : Scope} {dvs : List V} {kws : List (Str × V)} {f : Addr} {fd : FuncData}
theorem fnG {CX : CXT} {N ps : List Str} {k : Nat} {sp : Sp} (F : FunD K x qual params body scope dvs kws f fd) (S : FnScope N ps scope) (len : ∀ vs H Q E, sp vs H Q E → vs.length = ps.length)
    (bd : ∀ (cdv : Value) (A : Around) (outer : List Env) (s : Shared) (H : Hp) (vs : List V) (Q : VK) (E : XK), A.guards = some [] → Room k (A.deeper (envOfC qual scope s.heap.objs.size f cdv)) →
      (∀ c, fd.code = .ref c → cdv = .ref c) → sp vs H Q E →
      ∃ t, PSs (cxOf CX P w K mg base N qual scope f cdv A outer s H E) body t ∧ t { nx := fun _ H' => Q .non H', rt := Q } (start N vs) H) : FnG P w K mg base CX (k + 1) f fd ps sp := by
  obtain ⟨oc, od, dV, kV, doc, pm, an, cdv, ct, osl, rfl, lk, hcd, _, _⟩ := F.ex
  refine ⟨len, fun A outer s H ar us vs Q E gd room env bnd vals h => ?_⟩
  exact LamX.run_ofS (N := N) lk hcd S room env bnd vals (len _ _ _ _ h) fun room' => bd cdv A outer s H vs Q E gd room' (fun c e => e) h
end

section
variable {X : Cx} {CX : CXT} {k : Nat} {f : Addr} {fd : FuncData} {ps : List Str} {sp : Sp} {E : XK} {x : Str} {p pos : Pos} {e : Expr} {es : List Expr} {t : TA}
/-- such a def called by its name, all parameters given -/
theorem pe_callG (F : FnG X.prog X.w X.K X.mg X.base CX k f fd ps sp) (gd : X.A.guards = some []) (hr : Room k X.A) (hg : Gl X x) (hm : X.mg x = some (.ref f)) (hk : PySem.W.keepIn X.K (.ref f) = true) (hb : Binds X.K fd ps []) (hx : Passes CX X E)
    (ha : PA X (e :: es) t) (hdb : (x == ("__debug__" : Str)) = false := by decide) (he : starEach (e :: es) X.env = (false, eval e X.env) :: starEach es X.env := by rfl) (hpl : (backTo pos (starEach es X.env)).any (·.1) = false := by rfl) :
    PE X (.Call (.Name x p) (e :: es) [] pos) (tCall sp [] E t) := by
  constructor
  intro pins s σ H Q I h
  refine wpAny_Call_Name_kw (ld_glob I hg hm ?_ hdb)
  refine PySem.W.callWith_K (h₀ := X.base) I.ok.mod.kin hk ?_ he hpl
  refine thn (ha.run pos pins s σ H _ I h) ?_
  rintro us s1 ⟨vs, H1, I1, r, q⟩
  refine ⟨I1.kIn, ?_⟩
  have q' : sp vs H1 Q E := by
    have z : sp (vs ++ []) H1 Q E := q
    rw [List.append_nil] at z
    exact z
  have hl : us.length = ps.length := by
    rw [← r.length]
    exact F.args _ _ _ _ q'
  have bnd := hb s1 us I1.kIn (by rw [List.append_nil]; exact hl)
  rw [List.append_nil] at bnd
  refine wpAny_call (codeAny_mono (F.go X.A X.stack s1 H1 ⟨us, []⟩ us vs Q E gd hr I1.env0 bnd r q') ?_)
  rintro (er | fl) s' hq
  · exact hx pins σ H1 s1 er s' I1 hq
  · cases fl with
    | ret u => exact I1.after hq
    | next => exact hq.elim
    | brk => exact hq.elim
    | cont => exact hq.elim
end

/-! the end of a law row: the script is read, the tables are written, no repr is under way -/
section
variable {P : Program} {w : World} {K : PySem.W.Frag} {mg mb : Str → Option Value} {a : Addr} {cs : List (Addr × Addr)} {s₁ : Shared} {vs : List Value} {ns : List Int}
abbrev scO (vs : List Value) : Obj := { cls := .type "list", data := .seq vs.toArray }
abbrev emptyO : Obj := { cls := .none, data := .fields #[] }
/-- what is tracked at the start -/
def h0 (K : PySem.W.Frag) (T : List Addr) (a : Addr) (vs : List Value) (ns : List Int) : Hp := fun b =>
  if b ∈ T then some (.tbl #[]) else if b = a ∧ (K.lookup a).isNone = true then some (.frz (scO vs) (.lst (ns.map V.int))) else none
theorem h0_cases (K : PySem.W.Frag) (T : List Addr) (a : Addr) (vs : List Value) (ns : List Int) (b : Addr) :
    (h0 K T a vs ns b = none) ∨ (b ∈ T ∧ h0 K T a vs ns b = some (.tbl #[])) ∨ (b = a ∧ K.lookup a = none ∧ h0 K T a vs ns b = some (.frz (scO vs) (.lst (ns.map V.int)))) := by
  unfold h0
  by_cases h1 : b ∈ T
  · rw [if_pos h1]
    exact .inr (.inl ⟨h1, rfl⟩)
  · rw [if_neg h1]
    by_cases h2 : b = a ∧ (K.lookup a).isNone = true
    · rw [if_pos h2]
      exact .inr (.inr ⟨h2.1, Option.isNone_iff_eq_none.mp h2.2, rfl⟩)
    · rw [if_neg h2]
      exact .inl rfl
theorem law_callG {CX : CXT} {k : Nat} {fa : Addr} {fd : FuncData} {x : Str} {sp : Sp}
    (KX : K.In s₁.heap) (hns : s₁.heap.Ns mainGlobals mg) (hb : s₁.heap.Ns builtinsNs mb) (hbb : ∀ x : Str, x ≠ "__name__" → mb x = bootBuiltins x) (hlim : s₁.heap.NoLimit) (hg : s₁.gens = #[])
    (hT : ∀ p ∈ cs, s₁.heap.get? p.2 = some emptyO) (nT : ∀ p ∈ cs, K.lookup p.2 = none) (C : ∀ p ∈ cs, PySem.W.CodeHd s₁.heap p.1 p.2)
    (hbm : ∃ (bm : Addr) (ob : Obj), mg "__builtins__" = some (.ref bm) ∧ bm ≠ builtinsNs ∧ s₁.heap.get? bm = some ob ∧ ob.cls = .type "module" ∧ ob.dict = some builtinsNs ∧ ob.data = .plain)
    (ha : s₁.heap.get? a = some (scO vs)) (hi : IntsAre vs ns) (hl : ns.length ≤ sizeLine) (hr : Room k callerA)
    (F : ∀ base : Heap, K.In base → base.Ns mainGlobals mg → (∀ p ∈ cs, LamX.TabB base mg p.1 p.2) → FnG P w K mg base CX k fa fd [x] sp) (hbind : ∀ (s : Shared) (u : Value), BindsTo s fd ⟨[u], []⟩ [(x, u)])
    (hsp : ∀ H : Hp, (∀ p ∈ cs, H p.2 = some (.tbl #[])) → SqL K H a (ns.map V.int) → sp [.ref a] H (fun v _ => v = .bl true) fun _ _ _ => False)
    (hCX : ∀ H e s', CX [] H s₁ (fun _ _ _ => False) e s' → False) :
    codeAny (model P w) callerA (.call (.ref fa) ⟨[.ref a], []⟩) (fun r s' => r = .ok (.ret (.bool true)) ∧ OldK s₁.heap s'.heap ∧ s'.os = s₁.os ∧ AllBare s'.gens) s₁ := by
  have tbl : ∀ b ∈ cs.map (·.2), s₁.heap.get? b = some emptyO := by
    intro b hm
    obtain ⟨p, hp, rfl⟩ := List.mem_map.mp hm
    exact hT p hp
  have aT : a ∉ cs.map (·.2) := by
    intro hm
    have z := (tbl a hm).symm.trans ha
    injection z with z
    injection z with z1 z2 z3 z4
    cases z1
  let H : Hp := h0 K (cs.map (·.2)) a vs ns
  have hc : ∀ b, H b = none ∨ (b ∈ cs.map (·.2) ∧ H b = some (.tbl #[])) ∨ (b = a ∧ K.lookup a = none ∧ H b = some (.frz (scO vs) (.lst (ns.map V.int)))) := fun b => h0_cases K _ a vs ns b
  have hH : ∀ p ∈ cs, H p.2 = some (.tbl #[]) := fun p hp => by
    show h0 K _ a vs ns p.2 = _
    unfold h0
    rw [if_pos (List.mem_map.mpr ⟨p, hp, rfl⟩)]
  have lenV : vs.length = ns.length := hi.length
  have rv := vals_ints hi
  have sq : SqL K H a (ns.map V.int) := by
    cases hk : K.lookup a with
    | some o =>
      have e := (KX a o hk).symm.trans ha
      injection e with e
      subst e
      exact .inr ⟨_, vs.toArray, _, hk, rfl, rfl, rfl, by rw [List.size_toArray, lenV]; exact hl, by simpa using rv⟩
    | none =>
      refine .inl (.inr ⟨scO vs, ?_⟩)
      show h0 K _ a vs ns a = _
      unfold h0
      rw [if_neg aT, if_pos ⟨rfl, by rw [hk]; rfl⟩]
  have hok : HOk P w H s₁.heap := by
    intro b u e
    rcases hc b with z | ⟨m, z⟩ | ⟨rfl, _, z⟩
    · rw [z] at e
      cases e
    · rw [z] at e
      cases e
      exact tbl b m
    · rw [z] at e
      cases e
      exact ⟨ha, by rw [List.length_map]; exact hl, vs, _, rv, ha⟩
  -- what is no list and no empty table is not tracked
  have other : ∀ {b : Addr} {o : Obj}, s₁.heap.get? b = some o → o.data ≠ Data.seq vs.toArray 0 → o.data ≠ Data.fields #[] → H b = none := by
    intro b o e n1 n2
    rcases hc b with z | ⟨m, _⟩ | ⟨rfl, _, _⟩
    · exact z
    · have q := (tbl b m).symm.trans e
      injection q with q
      subst q
      exact absurd rfl n2
    · have q := ha.symm.trans e
      injection q with q
      subst q
      exact absurd rfl n1
  have down : ∀ {b : Addr} {o : Obj}, s₁.heap.get? b = some o → o.data ≠ Data.seq vs.toArray 0 → o.data ≠ Data.fields #[] → (hidT s₁.heap H).get? b = some o := fun e n1 n2 => hidT_get e (other e n1 n2)
  have nsD : ∀ {b : Addr} {m : Str → Option Value}, s₁.heap.Ns b m → (hidT s₁.heap H).Ns b m := by
    rintro b m ⟨o, es, ep, e, d, r⟩
    refine ⟨o, es, ep, down e ?_ ?_, d, r⟩
    · rw [d]
      intro q
      cases q
    · rw [d]
      intro q
      cases q
  have kin : K.In (hidT s₁.heap H) := by
    intro b o e
    refine hidT_get (KX b o e) ?_
    rcases hc b with z | ⟨m, _⟩ | ⟨rfl, n, _⟩
    · exact z
    · obtain ⟨p, hp, rfl⟩ := List.mem_map.mp m
      rw [nT p hp] at e
      cases e
    · rw [n] at e
      cases e
  have md : L2.Mod K mg (hidT s₁.heap H) := ⟨kin, nsD hns, ⟨mb, nsD hb, hbb⟩, by
    obtain ⟨mc, e1, e2⟩ := hlim
    exact ⟨mc, nsD e1, e2⟩⟩
  have tabs : ∀ p ∈ cs, LamX.TabB (hidT s₁.heap H) mg p.1 p.2 := by
    intro p hp
    constructor
    · obtain ⟨o, us, file, tf, flags, tg, inF, text, tt, g1, g2, g3, g4, g5⟩ := C p hp
      refine ⟨o, us, file, tf, flags, tg, inF, text, tt, down g1 ?_ ?_, g2, g3, g4, g5⟩
      · rw [g3]
        intro q
        cases q
      · rw [g3]
        intro q
        injection q with q
        rw [q] at g4
        simp at g4
    · obtain ⟨bm, ob, b1, b2, b3, b4, b5, b6⟩ := hbm
      refine ⟨bm, ob, b1, b2, ?_, ?_, down b3 ?_ ?_, b4, b5, b6⟩
      · intro q
        obtain ⟨o, es, ep, e, d, _⟩ := hns
        rw [q, e] at b3
        injection b3 with b3
        rw [← b3, d] at b6
        cases b6
      · intro q
        rw [q, hT p hp] at b3
        injection b3 with b3
        rw [← b3] at b6
        cases b6
      · rw [b6]
        intro q
        cases q
      · rw [b6]
        intro q
        cases q
    · intro z
      obtain ⟨o, es, ep, e, d, _⟩ := hns
      rw [z, hT p hp] at e
      injection e with e
      rw [← e] at d
      cases d
  have env : Env0 P w K mg (hidT s₁.heap H) callerA [] s₁ H :=
    { frames := rfl, mod := md, bs := fun b o e => of_hidT e, bsz := Nat.le_of_eq (hidT_size _ _), funs := True.intro, frf := (fun b z => by cases z), hok := hok, bare := .of_eq hg }
  refine codeAny_mono ((F _ kin (nsD hns) tabs).go callerA [] s₁ H ⟨[.ref a], []⟩ [.ref a] [.ref a] _ _ rfl hr env (hbind s₁ (.ref a)) (.cons rfl .nil) (hsp H hH sq)) ?_
  rintro (er | fl) s' h
  · exact (hCX H er s' h).elim
  · cases fl with
    | next => exact h.elim
    | brk => exact h.elim
    | cont => exact h.elim
    | ret u =>
      obtain ⟨v, H', os, bare, un, hok', r', q⟩ := h
      have q' : v = .bl true := q
      subst q'
      obtain rfl : u = Value.bool true := r'
      have same : ∀ b o, b ∉ cs.map (·.2) → s₁.heap.get? b = some o → s'.heap.get? b = some o := by
        intro b o nb e
        rcases hc b with z | ⟨m, _⟩ | ⟨rfl, _, z⟩
        · exact un.keep b o e z (by simp [frs]) (by simp)
        · exact absurd m nb
        · have z2 := un.frzs _ _ _ z
          obtain ⟨e2, _⟩ := hok' _ _ z2
          rw [ha] at e
          rw [← e]
          exact e2
      have grown : ∀ p ∈ cs, ∃ more : Array Value, s'.heap.get? p.2 = some { cls := .none, data := .fields more } := by
        intro p hp
        obtain ⟨more, z⟩ := un.tbls p.2 #[] (hH p hp)
        exact ⟨_, hok' p.2 _ z⟩
      refine ⟨rfl, ⟨fun b o e => ?_, fun b o e => ?_⟩, os, bare⟩
      · by_cases m : b ∈ cs.map (·.2)
        · obtain ⟨p, hp, rfl⟩ := List.mem_map.mp m
          obtain ⟨more, hm⟩ := grown p hp
          have e' := (hT p hp).symm.trans e
          injection e' with e'
          subst e'
          refine .inr (.inl ⟨((C p hp).tab (hT p hp)).isCodeTable, rfl, #[], more, rfl, ?_⟩)
          rw [Array.empty_append]
          exact hm
        · exact .inl (same b o m e)
      · by_cases m : b ∈ cs.map (·.2)
        · obtain ⟨p, hp, rfl⟩ := List.mem_map.mp m
          obtain ⟨more, hm⟩ := grown p hp
          exact ⟨_, hm⟩
        · exact ⟨o, same b o m e⟩
/-- what a law's facts at the head's heap h come to -/
def LawG (l : PySem.W.OpenLaw) (w : World) (K : PySem.W.Frag) (CX : CXT) (k n : Nat) (x : Str) (mg : Str → Option Value) (fa : Addr) (h : Heap) : Prop :=
  ∃ (fd : FuncData) (cs : List (Addr × Addr)) (sp : Sp), (∀ p ∈ cs, h.get? p.2 = some emptyO) ∧ (∀ p ∈ cs, K.lookup p.2 = none) ∧ (∀ p ∈ cs, PySem.W.CodeHd h p.1 p.2) ∧ (∀ (s : Shared) (u : Value), BindsTo s fd ⟨[u], []⟩ [(x, u)]) ∧
    (∀ (H : Hp) (a : Addr) (ns : List Int), ns.length ≤ n → (∀ z ∈ ns, Builtin.Int.intBits z ≤ 1048576) → (∀ p ∈ cs, H p.2 = some (.tbl #[])) → SqL K H a (ns.map V.int) → sp [.ref a] H (fun v _ => v = .bl true) fun _ _ _ => False) ∧
    ∀ base : Heap, K.In base → base.Ns mainGlobals mg → (∀ p ∈ cs, LamX.TabB base mg p.1 p.2) → FnG l.prog w K mg base CX k fa fd [x] sp
theorem walkG {l : PySem.W.OpenLaw} {n k : Nat} {q : Program} {loose : List Str} {XP : (Str → Option Value) → Heap → Prop} {YP : World → Heap → Prop} {d : DefRec} {CX : World → CXT} {x : Str}
    (hn : l.most = some n) (hn2 : n ≤ sizeLine) (hdf : d.params.defaults = []) (hr : Room k callerA)
    (F : ∀ (w : World) (mg : Str → Option Value) (fa : Addr) (h : Heap), YP w h → h.Ns mainGlobals mg → mg d.name = some (.ref fa) → ∃ K : PySem.W.Frag, K.In h ∧ LawG l w K (CX w) k n x mg fa h)
    (hCX : ∀ (w : World) (H : Hp) (s : Shared) (e : Value) (s' : Shared), CX w [] H s (fun _ _ _ => False) e s' → False) :
    PySem.W.WalkO q loose XP YP l.row.toRowW d [] (fun f vs => PySem.call f vs) := by
  refine Att.attach_callB hn hdf ?_
  intro w s₀ s₁ mg mb fa o pm cd doc a vs ns G Y ho hd hcd hmg hobj hints hlen hbits hg
  obtain ⟨K, KX, fd, cs, sp, c1, c2, c3, c4, c5, c6⟩ := F w mg fa _ Y G.T.g hmg
  exact law_callG KX G.T.g G.T.b G.T.builtins G.T.nolimit hg c1 c2 c3 G.T.bmain hobj hints (Nat.le_trans hlen hn2) hr c6 c4 (fun H hH hS => c5 H a ns hlen hbits hH hS) fun H e s' => hCX w H s₁ e s'
end
end Bb
set_option Elab.async false
set_option linter.all false
set_option maxRecDepth 100000
set_option maxHeartbeats 2000000
namespace Bb
open PySem PySem.Spec PyProof.Rows L2

/-! several clauses, each with a name: try: .. except x as n: .. except y as m: .. -/
abbrev Cl : Type := Value × Nat × (Addr → Value → Option Addr → TS)
/-- what the clauses wish of an exception, from the first on -/
def wAll (K : PySem.W.Frag) (Wout : WX) (D : Ends) : List Cl → WX
  | [] => Wout
  | q :: r => wAs K q.1 q.2.1 q.2.2 (wAll K Wout D r) D
inductive Cls2 (X : Cx) : List ExceptHandler → List Cl → Prop
  | nil : Cls2 X [] []
  | cons {x n : Str} {c : Value} {i : Nat} {ts : Addr → Value → Option Addr → TS} {b : Stmt} {su : List Stmt} {np pos' : Pos} {hds : List ExceptHandler} {l : List Cl} (hi : X.N[i]? = some n) (hl : X.env.kindOf n = some .local) (hc : Names X x c)
      (hsu : ∀ (a : Addr) (oe : Obj) (cls : Value) (d : Option Addr) (pn : List (Addr × Obj)), Zc cls d oe → (∃ vs, oe.data = .fields vs) → PSs (X.suite a ((a, oe) :: pn)) (b :: su) (ts a cls d)) (r : Cls2 X hds l) :
      Cls2 X (.ExceptHandler (some (.Name x np)) (some n) (b :: su) pos' :: hds) ((c, i, ts) :: l)
section
variable {X : Cx} {body : List Stmt} {h₁ : ExceptHandler} {hds : List ExceptHandler} {l : List Cl} {pos : Pos} {tb : WX → TS} {Wout : WX}
theorem ps_try_all (hs : X.stack = X.env :: X.outer) (hf : X.env.frame = some X.env.locals) (hN : X.N.Nodup) (tk : Takes X Wout)
    (hb : ∀ (W : WX) (pn : List (Addr × Obj)) (xe : Value → Shared → Prop), Takes (X.tr pn xe) W → PassesOwn (model X.prog X.w) X.A X.env xe → PSs (X.tr pn xe) body (tb W))
    (hh : Cls2 X (h₁ :: hds) l) : PS X (.Try body (h₁ :: hds) [] [] pos) (fun D σ H => tb (wAll X.K Wout D l) D σ H) := by
  constructor
  intro pins s σ H D I h
  have ok := I.ok
  have fr : X.A.frames = some (X.env :: X.outer) := by
    rw [ok.frames, hs]
  refine wpAny_Try_except ?_
  let land : Value → Shared → Prop := fun e s₁ => wpAny (model X.prog X.w) X.A (noteFrame e X.env)
    (fun _ s₂ => wpAny (model X.prog X.w) X.A (setFlight e none) (fun _ s₃ => wpAny (model X.prog X.w) X.A (handleBy e X.env (h₁ :: hds)) (SP X pins D) X.xe s₃) X.xe s₂) X.xe s₁
  have took : Takes (X.tr (X.pn ++ pins) land) (wAll X.K Wout D l) := by
    rintro u s' ⟨a, B, sI, pins', σ', H', cls, d, rfl, J', nb, up, sky, na, os, ag, wish⟩
    have J : Inv X pins σ' H' sI := J'.ofTry ok
    have over : Sky B (X.env :: X.outer) a (Zc cls d) X.env.locals s'.heap := by
      rw [← hs]
      exact sky
    show wpAny (model X.prog X.w) X.A (noteFrame (.ref a) X.env) _ _ _
    refine Sky.land Zc.steady fr hf over ?_
    intro h3 fl up3
    have J3 : Inv X pins σ' H' { s' with heap := h3 } := J.landed nb fl.1 (up.trans up3) os ag
    obtain ⟨oe, vs, ge, ze, de⟩ := fl.there
    have off : a ∉ frs (X.env :: X.outer) := by
      intro hm
      obtain ⟨_, o', e', hnf⟩ := fl.2.2.1.mem hm
      rw [ge] at e'
      cases e'
      exact hnf _ de
    have offL : a ≠ X.env.locals := by
      intro z
      refine off (List.mem_filterMap.mpr ⟨X.env, List.mem_cons_self, ?_⟩)
      rw [hf, z]
    have offF : a ∉ X.fs := by
      intro hm
      obtain ⟨e, he, q⟩ := List.mem_filterMap.mp hm
      exact off (List.mem_filterMap.mpr ⟨e, List.mem_cons_of_mem _ he, q⟩)
    have inS := J3.suite ge de na offL offF
    have looksT : PySem.W.Looks (model X.prog X.w) h3 (typeOf (.ref a)) cls := by
      intro A Q E s k q
      refine wpAny_typeOf_ref (k _ _ ge) ?_
      rw [ze.1]
      exact q
    -- the clauses, one behind the other
    have go : ∀ {hs' : List ExceptHandler} {l' : List Cl}, Cls2 X hs' l' → wAll X.K Wout D l' cls d σ' H' →
        wpAny (model X.prog X.w) X.A (handleBy (.ref a) X.env hs') (SP X pins D) X.xe { s' with heap := h3 } := by
      intro hs' l' ck
      induction ck with
      | nil =>
        intro w
        refine wpAny_handleBy_nil ?_
        obtain ⟨_, _, _, oe1, vs1, T, oT, ts1, g1, z1, d1, t1, _⟩ := id fl
        unfold PySem.passOn
        refine wpAny_bind (wpAny_field g1 d1 t1 ?_)
        rw [if_neg (by simp)]
        have last : wpAny (model X.prog X.w) X.A (setFlight (.ref a) X.env.frame) (fun _ s4 => wpAny (model X.prog X.w) X.A (throw (.ref a) : Sem Flow) (SP X pins D) X.xe s4) X.xe { s' with heap := h3 } := by
          rw [hf]
          refine HandSPX.setFlight_upZ fl ?_
          intro h4 held up4
          refine wpAny_throw (tk _ _ ⟨a, B, sI, pins, σ', H', cls, d, rfl, J, nb, (up.trans up3).trans up4, .inr (.inr ?_), na, os, ag, w⟩)
          rw [hs]
          exact held
        first
          | exact wpAny_bind (wpAny_pure (wpAny_bind last))
          | exact wpAny_bind last
      | @cons x n c i ts b su np pos' hds2 l2 hi hl hc hsu r ih =>
        intro w
        have w' : wAs X.K c i ts (wAll X.K Wout D l2) D cls d σ' H' := w
        obtain ⟨t, ht, yes, no⟩ := w'
        refine wpAny_handleBy_cons (codeAny_handlers_test ?_) (by intro q; cases q)
        have asked := PySem.W.exm_one (M := model X.prog X.w) J3.kIn looksT ht
        have name : ∀ {Q : Value → Shared → Prop} {E : Value → Shared → Prop}, Q c { s' with heap := h3 } → wpAny (model X.prog X.w) (X.A.mark (some (.ref a))) (eval (.Name x np) X.env) Q E { s' with heap := h3 } := by
          intro Q E q
          rcases hc with ⟨g, db, m | ⟨m, v, nn⟩⟩
          · exact ld_glob (X := X.suite a ((a, oe) :: (X.pn ++ pins))) inS g m q db
          · exact ld_blt (X := X.suite a ((a, oe) :: (X.pn ++ pins))) inS g m v q nn db
        refine name (asked.here ?_)
        cases t with
        | false => exact ih (no rfl)
        | true =>
          refine codeAny_handlers_suite_as ?_
          refine HandSPX.lands_againZ fl ?_
          intro h4 fl4 up4
          have J4 : Inv X pins σ' H' { s' with heap := h4 } := J.landed nb fl4.1 ((up.trans up3).trans up4) os ag
          obtain ⟨oe4, vs4, g4, z4, d4⟩ := fl4.there
          refine store_ok (X := X.suite a ((a, oe4) :: (X.pn ++ pins))) (v := .ref a) (J4.suite g4 d4 na offL offF) hN hi (.inl hl) rfl ?_ (.inr hl)
          intro s5 S5
          refine wpAny_mono ((hsu a oe4 cls d (X.pn ++ pins) z4 ⟨_, d4⟩).run [] s5 _ H' _ S5 (yes rfl a na)) ?_ (fun _ _ z => z.elim)
          have gone : ∀ {s6 : Shared} {σ6 : L2.St} {H6 : Hp} {Q : Shared → Prop}, Inv (X.suite a ((a, oe4) :: (X.pn ++ pins))) [] σ6 H6 s6 → (∀ s7, Inv X pins (σ6.set i none) H6 s7 → Q s7) →
              wpAny (model X.prog X.w) X.A (do bindName X.env n .none; unbindBehindTheSuite X.env n pos') (fun _ s7 => Q s7) X.xe s6 := fun S6 q => gone_ok (S6.unsuite ok) hN hi hl q
          intro f s6 sp
          cases f with
          | next =>
            obtain ⟨σ6, H6, S6, q6⟩ := sp
            exact gone S6 (fun s7 J7 => ⟨_, _, J7, q6⟩)
          | brk =>
            obtain ⟨σ6, H6, S6, q6⟩ := sp
            exact gone S6 (fun s7 J7 => ⟨_, _, J7, q6⟩)
          | cont =>
            obtain ⟨σ6, H6, S6, q6⟩ := sp
            exact gone S6 (fun s7 J7 => ⟨_, _, J7, q6⟩)
          | ret u =>
            obtain ⟨v6, σ6, H6, S6, r6, q6⟩ := sp
            exact gone S6 (fun s7 J7 => ⟨_, _, _, J7, r6, q6⟩)
    exact go hh wish
  refine wpAny_mono ((hb _ (X.pn ++ pins) land took PassesOwn.looking).run [] s σ H D (I.toTry _) h) ?_ (fun e s1 he => he)
  intro f s1 sp
  cases f with
  | next =>
    obtain ⟨σ1, H1, J1, q⟩ := sp
    exact wpAny_execs_nil ⟨σ1, H1, J1.ofTry ok, q⟩
  | brk =>
    obtain ⟨σ1, H1, J1, q⟩ := sp
    exact ⟨σ1, H1, J1.ofTry ok, q⟩
  | cont =>
    obtain ⟨σ1, H1, J1, q⟩ := sp
    exact ⟨σ1, H1, J1.ofTry ok, q⟩
  | ret u =>
    obtain ⟨v1, σ1, H1, J1, r, q⟩ := sp
    exact ⟨v1, σ1, H1, J1.ofTry ok, r, q⟩
end

/-! a def that is handed the exception of an except clause, in the clause's suite -/
section
variable {P : Program} {w : World} {K : PySem.W.Frag} {mg : Str → Option Value} {base : Heap}
/-- called with the exception at a, whose object is oe, it hands back z and leaves all as it was -/
structure FnE (P : Program) (w : World) (K : PySem.W.Frag) (mg : Str → Option Value) (base : Heap) (k : Nat) (f : Addr) (fd : FuncData) (ps : List Str) (D : Addr) (z : V) : Prop where
  one : ps.length = 1
  go : ∀ (A : Around) (outer : List Env) (s : Shared) (H : Hp) (ar : Args) (a : Addr) (oe : Obj) (Q : VK), L2H.RoomH k A → L2H.PinOk outer H s (a, oe) → Zc (.ref D) none oe → (∃ vs, oe.data = .fields vs) → Env0 P w K mg base A outer s H →
    BindsTo s fd ar (ps.zip [.ref a]) → (∀ H', (∀ b o, H b = some o → H' b = some o) → Q z H') → codeAny (model P w) A (.call (.ref f) ar) (CR (fun _ _ _ _ _ _ => False) outer P w H s Q (fun _ _ _ => False)) s
theorem fnE {x qual : Str} {params : Arguments} {body : List Stmt} {scope : Scope} {dvs : List V} {kws : List (Str × V)} {f : Addr} {fd : FuncData} {N : List Str} {p1 : Str} {k : Nat} {D : Addr} {z : V} (F : FunD K x qual params body scope dvs kws f fd) (S : FnScope N [p1] scope)
    (bd : ∀ (cdv : Value) (A : Around) (outer : List Env) (s : Shared) (H : Hp) (a : Addr) (oe : Obj) (Q : VK), L2H.RoomH k (A.deeper (envOfC qual scope s.heap.objs.size f cdv)) → Zc (.ref D) none oe → (∃ vs, oe.data = .fields vs) → (∀ H', (∀ b o, H b = some o → H' b = some o) → Q z H') →
      ∃ t, PSs (L2H.cxH (fun _ _ _ _ _ _ => False) P w K mg base N qual scope f cdv A outer s H (fun _ _ _ => False) (a, oe)) body t ∧ t { nx := fun _ H' => Q .non H', rt := Q } (start N [.ref a]) H) : FnE P w K mg base (k + 1) f fd [p1] D z := by
  obtain ⟨oc, od, dV, kV, doc, pm, an, cdv, ct, osl, rfl, lk, hcd, _, _⟩ := F.ex
  refine ⟨rfl, ?_⟩
  intro A outer s H ar a oe Q room pin hz hd env bnd back
  have kin : K.In s.heap := env.mod.kin.keeps fun b o e => (env.bs b o e).1
  have lim : s.heap.NoLimit := env.mod.nolimit.keeps fun b o e => (env.bs b o e).1
  have kinds : ∀ y ∈ [p1].zip [Value.ref a], scope.names.lookup y.1 = some .local ∨ (scope.names.lookup y.1 = some .cell ∧ ((cellsFrom (s.heap.objs.size + 1) scope.names []).lookup y.1).isSome = true) := by
    rintro ⟨n, v⟩ hy
    rcases S.par n (List.of_mem_zip hy).1 with q | q
    · exact .inl q
    · exact .inr ⟨q, PySem.W.cellsFrom_some _ _ _ (.inl q)⟩
  refine codeAny_call_function room.depth (kin _ _ lk) rfl S.co S.gen rfl (PySem.W.codeRec_of kin hcd) (bnd _ _ _ _ ?_)
  refine wpAny_newFunctionEnv_cells S.kind kinds ?_
  rintro env1 rfl s1 x1
  refine ⟨lim.keeps x1.toInCall.keep, codeAny_func ?_⟩
  obtain ⟨t, ht, hq⟩ := bd cdv A outer s H a oe Q (room.deeper _) hz hd back
  have start1 := L2H.inv_startH (CX := fun _ _ _ _ _ _ => False) (E := fun _ _ _ => False) S pin env (vs := [.ref a]) rfl (.cons rfl .nil) x1
  refine wpAny_mono (ht.run [] s1 (start N [.ref a]) H _ start1 hq) ?_ (fun e s' hx => hx)
  intro fl s' sp
  cases fl with
  | next =>
    obtain ⟨σ', H', J, q⟩ := sp
    exact ⟨V.non, H', J.os, J.bare, J.base, J.hok, rfl, q⟩
  | brk =>
    obtain ⟨_, _, _, q⟩ := sp
    exact q.elim
  | cont =>
    obtain ⟨_, _, _, q⟩ := sp
    exact q.elim
  | ret u =>
    obtain ⟨v, σ', H', J, rv, q⟩ := sp
    exact ⟨v, H', J.os, J.bare, J.base, J.hok, rv, q⟩
end
/-- kind(e) in the suite: e stands in slot i -/
theorem pe_callE {X : Cx} {a : Addr} {oe : Obj} {pn : List (Addr × Obj)} {k : Nat} {f D : Addr} {fd : FuncData} {ps : List Str} {z : V} {x : Str} {p pos : Pos} {e : Expr} (F : FnE X.prog X.w X.K X.mg X.base k f fd ps D z) (hr : L2H.RoomH k X.A) (hg : Gl X x) (hm : X.mg x = some (.ref f)) (hk : PySem.W.keepIn X.K (.ref f) = true)
    (hb : Binds X.K fd ps []) (hz : Zc (.ref D) none oe) (hd : ∃ vs, oe.data = .fields vs) {t : TA} (he : PA (X.suite a ((a, oe) :: pn)) [e] t)
    (hdb : (x == ("__debug__" : Str)) = false := by decide) (hst : starEach [e] X.env = (false, eval e X.env) :: starEach [] X.env := by rfl) (hpl : (backTo pos (starEach [] X.env)).any (·.1) = false := by rfl) :
    PE (X.suite a ((a, oe) :: pn)) (.Call (.Name x p) [e] [] pos) (fun σ H Q => t σ H fun vs H1 => vs = [.ref a] ∧ ∀ H', (∀ b o, H1 b = some o → H' b = some o) → Q z H') := by
  constructor
  intro pins s σ H Q I h
  refine wpAny_Call_Name_kw (ld_glob I hg hm ?_ hdb)
  refine PySem.W.callWith_K (h₀ := X.base) I.ok.mod.kin hk ?_ hst hpl
  refine thn (he.run pos pins s σ H _ I h) ?_
  rintro us s1 ⟨vs, H1, I1, r, rfl, q⟩
  refine ⟨I1.kIn, ?_⟩
  obtain ⟨u, rfl, ru⟩ := vals1 r
  cases ru
  have one : [Value.ref a].length = ps.length := F.one.symm
  have bnd := hb s1 [.ref a] I1.kIn (by rw [List.append_nil]; exact one)
  rw [List.append_nil] at bnd
  have pin1 := I1.pin (a, oe) (List.mem_append_left _ List.mem_cons_self)
  have pinned : L2H.PinOk X.stack H1 s1 (a, oe) := ⟨pin1.1, pin1.2.1, fun hm => (List.mem_cons.mp (I1.stkSub a hm)).elim pin1.2.2.1 pin1.2.2.2.1, pin1.2.2.2.2⟩
  refine wpAny_call (codeAny_mono (F.go _ X.stack s1 H1 ⟨[.ref a], []⟩ a oe Q ⟨hr.dp, hr.un⟩ pinned hz hd I1.env0 bnd q) ?_)
  rintro (er | fl) s' hq
  · exact hq.elim
  · cases fl with
    | ret u => exact I1.after hq
    | next => exact hq.elim
    | brk => exact hq.elim
    | cont => exact hq.elim
end Bb
set_option Elab.async false
set_option linter.all false
set_option maxRecDepth 100000
set_option maxHeartbeats 2000000
namespace Bb
open PySem PySem.Spec PyProof.Rows L2

/-! isinstance of the exception that the caller's suite holds -/
theorem call_isP {X : Cx} {a D : Addr} {oe : Obj} (hp : (a, oe) ∈ X.pn) (C : ExcC X.K D) (hz : Zc (.ref D) none oe) (hf : ∃ vs, oe.data = .fields vs) : CallR X (.builtin "isinstance") (rIsE X.K D a) := by
  intro pins s σ H xs us Q I r h
  obtain ⟨c, cv, b, rfl, hcv, e, q⟩ := h
  obtain ⟨u1, u2, rfl, r1, r2⟩ := vals2 r
  cases r1
  have ec := hcv _ r2
  subst ec
  have there := (I.pin (a, oe) (List.mem_append_left _ hp)).1
  obtain ⟨vs, hv⟩ := hf
  have J : PySem.W.InstAt s.heap a oe D none := by
    obtain ⟨oc, od, oda, osl⟩ := oe
    obtain ⟨h1, h2⟩ := hz
    dsimp only at h1 h2 hv
    subst h1 h2 hv
    exact ⟨there, rfl, rfl, trivial⟩
  refine PySem.W.kia_one (PySem.W.handS_kitx_exc C.hg C.hk C.hs C.hd C.ha C.hn C.ht C.hm) I.kIn J e (fun z => nomatch z) ?_
  intro tk
  exact ⟨.bl b, H, I.kept (t' := tk) (fun _ _ z => z), rfl, q⟩

/-! list.count of flat items -/
def rCntF (K : PySem.W.Frag) : V → List V → Hp → VK → Prop := fun x xs H Q => ∃ (p : Addr) (ys : List V) (y : V), x = .ref p ∧ xs = [y] ∧ SqL K H p ys ∧ flatV y = true ∧ ys.all flatV = true ∧ Q (.int ((ys.countP fun z => eqV z y : Nat) : Int)) H
theorem count_eqU {x : V} : ∀ {xs : List V} {us : List Value}, Vals xs us → xs.all flatV = true → us.countP (eqU x) = xs.countP fun y => eqV y x
  | _, _, .nil, _ => rfl
  | y :: xs, u :: us, .cons r t, f => by
    rw [List.all_cons, Bool.and_eq_true] at f
    rw [List.countP_cons, List.countP_cons, eqU_of r f.1, count_eqU t f.2]
theorem mt_countF {X : Cx} : MtR X "list.count" (rCntF X.K) := by
  intro pins s σ H x xs v us Q I rx rxs h
  obtain ⟨p, ys, y, rfl, rfl, hs, fy, fys, q⟩ := h
  cases rx
  obtain ⟨u, rfl, ru⟩ := vals1 rxs
  obtain ⟨its, rv, ⟨⟨cls, dd, data, sl⟩, n, ho, hc, hdn, hd⟩, hlen⟩ := I.list hs
  dsimp only at hc hd
  subst hc hd
  refine call_meets PySem.F.slot_list_count ⟨_, ho, rfl⟩ PySem.F.entry_list_count (PySem.F.args_list_count_2 _ _) (SeqAt.list_countAt p its.toArray n dd sl u (eqU y)) ⟨ho, ?_, ?_⟩
  · intro z hz
    exact mem_eqAt ru fy rv fys z (by simpa using hz)
  · refine ⟨.int ((ys.countP fun z => eqV z y : Nat) : Int), H, I.tok _, ⟨s.toks, ?_⟩, q⟩
    have e := count_eqU (x := y) rv fys
    show Value.int ((its.toArray.toList.countP (eqU y) : Nat) : Int) s.toks = _
    rw [show its.toArray.toList = its from rfl, e]

/-! len of an own instance; != by an own == -/
section
variable {X : Cx}
theorem call_lenOwn {CX : CXT} {C f : Addr} {fd : FuncData} {ps : List Str} {sp : Sp} {k : Nat} {E : XK} (F : FnOk X.prog X.w X.K X.mg X.base CX k f fd ps sp) (hr : Room (k + 1) X.A) (hs : PySem.W.findIn X.K (.ref C) "__len__" = some (some (.ref f))) (hf : PySem.W.isFn X.K (.ref f) = true)
    (hb : Binds X.K fd ps []) (hx : Passes CX X E) :
    CallR X (.builtin "len") (fun xs H Q => ∃ a dx fs, xs = [.ref a] ∧ H a = some (.ins C dx fs) ∧ sp [.ref a] H (fun v H' => ∃ n : Int, v = .int n ∧ (0 ≤ n ∧ n < 2 ^ 63) ∧ Q (.int n) H') E) := by
  intro pins s σ H xs us Q I r h
  obtain ⟨a, dx, fs, rfl, ha, hsp⟩ := h
  obtain ⟨u, rfl, ru⟩ := vals1 r
  cases ru
  obtain ⟨mA, J, _⟩ := ins_get I.hok ha
  obtain ⟨od, J, _⟩ := J.look
  obtain ⟨m, hF⟩ := I.fr
  refine PySem.W.len_K hF I.ok.mod.kin J hs hf ?_
  have hl := F.len _ _ _ _ hsp
  have bnd := hb s [.ref a] I.kIn (by simpa using hl)
  rw [List.append_nil] at bnd
  refine wpAny_call (codeAny_mono (F.run X.A.in1 X.stack s H ⟨[.ref a], []⟩ [.ref a] [.ref a] _ E hr.in1 I.env0.in1 bnd (.cons rfl .nil) hsp) ?_)
  rintro (er | fl) s' hq
  · exact hx pins σ H s er s' I hq
  · cases fl with
    | ret w' =>
      obtain ⟨z, H', I', rz, n, rfl, hn, q⟩ := I.after hq
      obtain ⟨t, rfl⟩ := rz
      exact ⟨hn, .int n, H', I'.tok _, ⟨_, rfl⟩, q⟩
    | next => exact hq.elim
    | brk => exact hq.elim
    | cont => exact hq.elim
end
namespace Ne
open PySem.W PySem.Calls
section
variable {prog : Program} {w : World} {A : Around} {E : Value → Shared → Prop} {s : Shared} {K : Frag} {x y C f : Addr} {ox oy : Obj} {od od' : Option Obj}
theorem wrap_ty : typeOf (.builtin "object.__ne__") = pure (.type "wrapper_descriptor") := by
  first
    | rfl
    | kernel_rfl
theorem obj_ne {Q : Value → Shared → Prop} (X : K.In s.heap) (I : InstAt s.heap x ox C od) (J : InstAt s.heap y oy C od') (hu : A.units + 1 < cLine) (he : findIn K (.ref C) "__eq__" = some (some (.ref f))) (hf : isFn K (.ref f) = true)
    (hn : findIn K (.ref C) "__ne__" = some (some (.builtin "object.__ne__"))) (hsub : subIn K (.ref C) (.type "object") = some true)
    (h : wpAny (model prog w) A.in1 (call (.ref f) [.ref x, .ref y]) (fun v s' => ∃ b, v = .bool b ∧ Q (.bool (!b)) s') E s) : wpAny (model prog w) A (compareOp .NotEq (.ref x) (.ref y)) Q E s := by
  obtain ⟨hp, g, d, tk, os⟩ := s
  have isO : Looks (model prog w) hp (isInstance (.ref x) (.type "object")) true := I.type.andThen (looks_subIn X hsub)
  -- object.__ne__(x, y)
  have slot : wpAny (model prog w) A (call (.builtin "object.__ne__") [.ref x, .ref y]) (fun v s' => ∃ b, v = .bool b ∧ Q (.bool b) s') E ⟨hp, g, d, tk, os⟩ := by
    refine wpAny_call (codeAny_call_builtin (by decide +kernel) F.cmpEntry_ne ?_)
    refine @check_slot (model prog w) _ _ ⟨hp, g, d, tk, os⟩ "object.__ne__" "object" "__ne__" (.ref x) [.ref y] [] _ F.cmpKind_ne F.cmpSplit_ne isO (F.cmpArgs_ne _ _) ?_
    unfold Builtin.«object.__ne__»
    have eqc : ∀ {R : Option Value → Shared → Prop} {E' : Value → Shared → Prop}, wpAny (model prog w) A.in1 (call (.ref f) [.ref x, .ref y]) (fun v => R (some v)) E' ⟨hp, g, d, tk, os⟩ →
        wpAny (model prog w) A.in1 (callSpecialIfBound? (.ref x) (Str.ofString "__eq__") [.ref y]) R E' ⟨hp, g, d, tk, os⟩ := fun z => ifBound_K X I he hf z
    have rest : ∀ (v : Value) (s' : Shared), (∃ b, v = .bool b ∧ Q (.bool (!b)) s') → wpAny (model prog w) A.in1 (match some v with | some Value.notImplemented => ret .notImplemented | none => ret .notImplemented | some r => do ret (.bool (!(← truthy r))))
        (fun fin s' => match fin with
          | .done f => wants (fun v s' => ∃ b, v = Value.bool b ∧ Q (Value.bool b) s') E (.ok f) s'
          | .again c' => c'.quiet = true ∧ codeAny (model prog w) A c' (wants (fun v s' => ∃ b, v = Value.bool b ∧ Q (Value.bool b) s') E) s') (fun e s' => wants (fun v s' => ∃ b, v = Value.bool b ∧ Q (Value.bool b) s') E (.error e) s') s' := by
      rintro v s' ⟨b, rfl, hq⟩
      refine wpAny_bind (wpAny_truthy_bool (wpAny_pure ?_))
      exact ⟨!b, rfl, hq⟩
    repeat (first
      | with_reducible refine wpAny_cRoomFor hu ?_
      | exact wpAny_bind (m := callSpecialIfBound? (.ref x) (Str.ofString "__eq__") [.ref y]) (eqc (wpAny_mono h (fun v s' hv => rest v s' hv) fun _ _ e => e))
      | wp_step)
  have bs : bindSpecial (.builtin "object.__ne__") (.ref x) = pure (.builtin "object.__ne__", [.ref x]) := by
    unfold bindSpecial
    rw [wrap_ty]
    rfl
  have two : wpAny (model prog w) A (callSpecialIfBound? (.ref x) (Str.ofString "__ne__") [.ref y]) (fun r s' => ∃ b, r = some (Value.bool b) ∧ Q (Value.bool b) s') E ⟨hp, g, d, tk, os⟩ := by
    simp only [callSpecialIfBound?, bindSpecialIfBound?]
    refine wpAny_holding (wpAny_bind (wpAny_bind (wpAny_bind (I.type.here ((looks_findIn X hn).here ?_)))))
    refine wpAny_bind (wpAny_askSetting (wpAny_ite ?_))
    have fin : wpAny (model prog w) A (call (.builtin "object.__ne__") ([.ref x] ++ [.ref y]) >>= fun v => pure (some v)) (fun r s' => ∃ b, r = some (Value.bool b) ∧ Q (Value.bool b) s') E ⟨hp, g, d, tk, os⟩ := by
      refine wpAny_bind (wpAny_mono slot ?_ fun _ _ e => e)
      rintro v s' ⟨b, rfl, hq⟩
      exact wpAny_pure ⟨b, rfl, hq⟩
    split
    · rw [bs]
      exact wpAny_bind (wpAny_pure (wpAny_pure (by exact fin)))
    · rw [bs]
      exact wpAny_tryCatch (wpAny_bind (wpAny_pure (wpAny_pure (by exact fin))))
  have one : wpAny (model prog w) A (tryCompare (.ref x) (Str.ofString "__ne__") (.ref y)) (fun r s' => ∃ v, r = some v ∧ Q v s') E ⟨hp, g, d, tk, os⟩ := by
    unfold tryCompare
    refine wpAny_bind (wpAny_mono two ?_ fun _ _ e => e)
    rintro r s' ⟨b, rfl, hq⟩
    exact wpAny_pure ⟨_, rfl, hq⟩
  show wpAny (model prog w) A (richCompare .NotEq (.ref x) (.ref y)) Q E _
  unfold richCompare
  simp only [oneThing_ref]
  refine wpAny_holding (wpAny_bind (wpAny_cRoomFor (Nat.lt_of_succ_lt hu) ?_))
  refine wpAny_bind (I.type.here (wpAny_bind (J.type.here ?_)))
  rw [show (Value.ref C != Value.ref C) = false from by simp]
  simp only [Bool.false_eq_true, if_false]
  refine wpAny_bind (wpAny_pure ?_)
  simp only [Bool.false_eq_true, if_false]
  refine wpAny_bind (wpAny_mono one ?_ fun _ _ e => e)
  rintro r s' ⟨v, rfl, hq⟩
  exact wpAny_pure hq
end
end Ne
end Bb
set_option Elab.async false
set_option linter.all false
set_option maxRecDepth 100000
set_option maxHeartbeats 2000000
namespace Bb
open PySem PySem.Spec PyProof.Rows L2
open Builtin

/-! ==, != by an own ==: what it answers is told -/
section
variable {X : Cx} {CX : CXT} {C f : Addr} {fd : FuncData} {ps : List Str} {sp : Sp} {k : Nat} {E : XK}
theorem op_neOwn (F : FnOk X.prog X.w X.K X.mg X.base CX k f fd ps sp) (hr : Room (k + 1) X.A) (he : PySem.W.findIn X.K (.ref C) "__eq__" = some (some (.ref f))) (hf : PySem.W.isFn X.K (.ref f) = true)
    (hn : PySem.W.findIn X.K (.ref C) "__ne__" = some (some (.builtin "object.__ne__"))) (hsub : PySem.W.subIn X.K (.ref C) (.type "object") = some true) (hb : Binds X.K fd ps []) (hx : Passes CX X E) :
    OpR X (compareOp .NotEq) (fun x y H Q => ∃ a b dx dy fs gs, x = .ref a ∧ y = .ref b ∧ H a = some (.ins C dx fs) ∧ H b = some (.ins C dy gs) ∧ sp [.ref a, .ref b] H (fun v H' => ∃ t, v = .bl t ∧ Q (.bl (!t)) H') E) := by
  intro pins s σ H x y v u Q I rx ry h
  obtain ⟨a, b, dx, dy, fs, gs, rfl, rfl, ha, hb', hsp⟩ := h
  cases rx
  cases ry
  obtain ⟨mA, J, _⟩ := ins_get I.hok ha
  obtain ⟨od, J, _⟩ := J.look
  obtain ⟨mB, J', _⟩ := ins_get I.hok hb'
  obtain ⟨od', J', _⟩ := J'.look
  have un := hr.units
  refine Ne.obj_ne I.kIn J J' (by omega) he hf hn hsub ?_
  have hl := F.len _ _ _ _ hsp
  have bnd := hb s [.ref a, .ref b] I.kIn (by simpa using hl)
  rw [List.append_nil] at bnd
  refine wpAny_call (codeAny_mono (F.run X.A.in1 X.stack s H ⟨[.ref a, .ref b], []⟩ [.ref a, .ref b] [.ref a, .ref b] _ E hr.in1 I.env0.in1 bnd (.cons rfl (.cons rfl .nil)) hsp) ?_)
  rintro (er | fl) s' hq
  · exact hx pins σ H s er s' I hq
  · cases fl with
    | ret w' =>
      obtain ⟨z, H', I', rz, t, rfl, q⟩ := I.after hq
      cases rz
      exact ⟨t, rfl, .bl (!t), H', I', rfl, q⟩
    | next => exact hq.elim
    | brk => exact hq.elim
    | cont => exact hq.elim
theorem op_eqOwn (F : FnOk X.prog X.w X.K X.mg X.base CX k f fd ps sp) (hr : Room k X.A) (he : PySem.W.findIn X.K (.ref C) "__eq__" = some (some (.ref f))) (hf : PySem.W.isFn X.K (.ref f) = true)
    (hb : Binds X.K fd ps []) (hx : Passes CX X E) :
    OpR X (compareOp .Eq) (fun x y H Q => ∃ a b dx dy fs gs, x = .ref a ∧ y = .ref b ∧ H a = some (.ins C dx fs) ∧ H b = some (.ins C dy gs) ∧ sp [.ref a, .ref b] H (fun v H' => ∃ t, v = .bl t ∧ Q (.bl t) H') E) := by
  intro pins s σ H x y v u Q I rx ry h
  obtain ⟨a, b, dx, dy, fs, gs, rfl, rfl, ha, hb', hsp⟩ := h
  cases rx
  cases ry
  obtain ⟨mA, J, _⟩ := ins_get I.hok ha
  obtain ⟨od, J, _⟩ := J.look
  obtain ⟨mB, J', _⟩ := ins_get I.hok hb'
  obtain ⟨od', J', _⟩ := J'.look
  obtain ⟨m, hF⟩ := I.fr
  show wpAny (model X.prog X.w) X.A (richCompare .Eq (.ref a) (.ref b)) _ _ _
  refine PySem.W.cmp_K (op := .Eq) (tb := .ref C) hr.units0 hF I.ok.mod.kin J J'.type (by simp [PySem.W.notFirst]) he hf ?_
  have hl := F.len _ _ _ _ hsp
  have bnd := hb s [.ref a, .ref b] I.kIn (by simpa using hl)
  rw [List.append_nil] at bnd
  refine wpAny_call (codeAny_mono (F.run X.A X.stack s H ⟨[.ref a, .ref b], []⟩ [.ref a, .ref b] [.ref a, .ref b] _ E hr I.env0 bnd (.cons rfl (.cons rfl .nil)) hsp) ?_)
  rintro (er | fl) s' hq
  · exact hx pins σ H s er s' I hq
  · cases fl with
    | ret w' =>
      obtain ⟨z, H', I', rz, t, rfl, q⟩ := I.after hq
      cases rz
      exact ⟨.bl t, H', I', rfl, q⟩
    | next => exact hq.elim
    | brk => exact hq.elim
    | cont => exact hq.elim
end

/-! enumerate over a tuple -/
def IteT (K : PySem.W.Frag) (a : Addr) : It :=
  ⟨fun i H => ∃ (xs : List V) (x : V), SqT K H a xs ∧ xs[i]? = some x, fun i H v H' => ∃ T x, v = .ref T ∧ H T = none ∧ H' = upd H T (.tup [.int (i : Nat), x]) ∧ ∀ xs, SqT K H a xs → xs[i]? = some x, fun i H => ∃ xs : List V, SqT K H a xs ∧ xs.length ≤ i⟩
theorem tup_ne_iter {h : Heap} {a it : Addr} {items : Array Value} {i : Nat} (t : h.IsTuple a items) (x : h.IsTupleIter it a i) : a ≠ it := by
  rintro rfl
  obtain ⟨o, e, c, _⟩ := t
  obtain ⟨o', e', c', _⟩ := x
  rw [e] at e'
  injection e' with e'
  subst e'
  rw [c] at c'
  exact absurd c' (by decide)
theorem tup_ne_enum {h : Heap} {a e it : Addr} {items : Array Value} {i : Int} {old : Value} (t : h.IsTuple a items) (x : IsEnum h e it i old) : e ≠ a := by
  rintro rfl
  obtain ⟨o, g, c, _⟩ := t
  have g' : h.get? e = _ := x
  rw [g] at g'
  injection g' with g'
  subst g'
  have c' : Value.type "enumerate" = Value.type "tuple" := c
  exact absurd c' (by decide)
theorem turn_enumT {P : Program} {w : World} {K : PySem.W.Frag} {elts : List Expr} {kk : Nat} {tpos : Pos} (a e it : Addr) :
    Turn P w K (.Tuple elts kk tpos) (IteT K a) [e, it] e (fun i h => (∃ old, IsEnum h e it ((i : Nat) : Int) old) ∧ h.IsTupleIter it a i ∧ e ≠ it) where
  mem := by simp
  obj := by
    rintro i h ⟨⟨old, he⟩, ⟨o, ho, hc, hd⟩, _⟩ b hb
    have two : b = e ∨ b = it := by simpa using hb
    rcases two with rfl | rfl
    · exact ⟨_, he, fun v q => nomatch q⟩
    · refine ⟨o, ho, fun v q => ?_⟩
      rw [hd] at q
      cases q
  keep := by
    rintro i h h' ⟨⟨old, he⟩, hi, ne⟩ k
    exact ⟨⟨old, k e (by simp) _ he⟩, hi.at (fun o q => k it (by simp) o q), ne⟩
  item := by
    intro X hP hw hK hc i pins s σ H E I hf st hg
    subst hP hw hK
    obtain ⟨⟨old, he⟩, hit, ne⟩ := st
    obtain ⟨xs, x, hq, hx⟩ := hg
    obtain ⟨its, rv, p, hz⟩ := I.tuple hq
    have pt : s.heap.IsTuple a its.toArray := p
    obtain ⟨u, hu, ru⟩ := rv.get hx
    have szE : e < s.heap.objs.size := Heap.lt_size he
    have szI : it < s.heap.objs.size := by
      obtain ⟨_, q, _⟩ := hit
      exact Heap.lt_size q
    have lt : i < its.toArray.size := by
      have z := (List.getElem?_eq_some_iff.mp hu).1
      simpa using z
    have D : Draws X.prog X.w X.A.in1 it [it, a] its.toArray.size (fun i v => its.toArray[i]? = some v) (fun i h => h.IsTupleIter it a i ∧ h.IsTuple a its.toArray) := Draws.tuple (show X.A.in1.handled = none from I.ok.hd hc) it a (tup_ne_iter pt hit) its.toArray
    refine wpAny_pyNext_enum_itemD D he ⟨hit, pt⟩ lt ne (by simp [ne, tup_ne_enum pt he]) ?_
    intro x' h' tk hx' ho st' hT hsz hk
    have ex : x' = u := by
      have z : its.toArray[i]? = some u := by simpa using hu
      rw [z] at hx'
      exact (Option.some.inj hx').symm
    subst ex
    refine ⟨_, rfl, wpAny_letOwnedTupleGo_enum (s := { s with heap := h', toks := tk + 1 }) ho ?_⟩
    intro h'' he' sb
    have hT2 : h''.get? s.heap.objs.size = some { cls := .type "tuple", data := .seq #[.int i tk, x'] } := (sb.2 _ (Nat.ne_of_gt szE)).trans hT
    have fresh : ObjOk X.prog X.w (upd H s.heap.objs.size (.tup [.int (i : Nat), x])) h'' s.heap.objs.size (.tup [.int (i : Nat), x]) :=
      ⟨(by show 2 ≤ sizeLine; decide), [.int i tk, x'], .cons ⟨_, rfl⟩ (.cons ru .nil), ⟨_, hT2, rfl, _, rfl⟩⟩
    have I1 : Inv X pins σ (upd H s.heap.objs.size (.tup [.int (i : Nat), x])) { s with heap := h'', toks := tk + 1 } := by
      refine I.turnedNew (ch := [e, it]) ?_ hf (Nat.le_refl _) fresh
      intro b ob hb q
      have n1 : b ≠ e := fun z => hb (by simp [z])
      have n2 : b ≠ it := fun z => hb (by simp [z])
      exact (sb.2 b n1).trans (hk b ob n1 n2 q)
    refine ⟨.ref s.heap.objs.size, _, I1, rfl, ⟨_, x, rfl, I.hok.fresh (Nat.le_refl _), rfl, ?_⟩, ⟨⟨x', ?_⟩, st'.1.at (fun o q => (sb.2 it (Ne.symm ne)).trans q), ne⟩, ?_⟩
    · intro ys hy
      rw [I.tuple_inj hy hq]
      exact hx
    · have e1 : ((i + 1 : Nat) : Int) = (i : Int) + 1 := by omega
      rw [e1]
      exact he'
    · intro b hb
      have two : b = e ∨ b = it := by simpa using hb
      have low : b < s.heap.objs.size := by
        rcases two with rfl | rfl
        · exact szE
        · exact szI
      rw [upd_ne (Nat.ne_of_lt low)]
      exact (hf b hb).1
  done := by
    intro X hP hw hK hc i pins s σ H E I hf st hg
    subst hP hw hK
    obtain ⟨⟨old, he⟩, hit, ne⟩ := st
    obtain ⟨xs, hq, hx⟩ := hg
    obtain ⟨its, rv, p, hz⟩ := I.tuple hq
    have pt : s.heap.IsTuple a its.toArray := p
    obtain ⟨f0, f1, f2, f3, f4, f5⟩ := hf it (by simp)
    have hl := rv.length
    have end_ : ∀ {Q : Option Value → Shared → Prop}, (∀ h', Heap.ExtBut it s.heap h' → Q none { s with heap := h' }) → wpAny (model X.prog X.w) X.A (pyNext (.ref e)) Q E s := by
      intro Q hQ
      unfold pyNext
      refine wpAny_bind (wpAny_attempt (wpAny_callSpecial?_slot (name := Str.ofString "__next__") ⟨_, he, rfl⟩ F.slot_enumerate_next (wpAny_call_entry F.slot_enumerate_next ⟨_, he, rfl⟩ F.entry_enumerate_next ?_ (F.args_enumerate_next_1 _))))
      show wpAny _ _ (field (.ref e) 2 >>= _) _ _ _
      refine wpAny_bind (wpAny_field he rfl (x := .ref it) rfl ?_)
      refine wpAny_bind (wpAny_nextOf_tuple_end (I.ok.hd hc) hit pt (by simp; omega) ?_)
      rintro h' x eb ⟨o, ho, hc'⟩
      refine wpAny_bind (wpAny_isInstance (T := "StopIteration") (b := true) ⟨o, ho, hc'⟩ isSubtype_stop ?_)
      exact wpAny_pure (hQ h' eb)
    exact end_ (fun h' eb => ⟨rfl, I.turned (t' := s.toks) (fun b o hb q => eb b o hb q) f0 f1 f3 f4 f5⟩)
  self := by
    rintro A i s Q E ⟨⟨_, he⟩, _⟩ h
    exact wpAny_pyIter_enum he h
theorem walk_enumT {K : PySem.W.Frag} {a : Addr} {xs : List V} : Walk (IteT K a) xs.length (fun H => SqT K H a xs) (YPair (fun i => some (.int (i : Nat))) (fun i => xs[i]?)) := by
  refine ⟨fun i _ hi q => ⟨xs, xs[i], q, by simp [hi]⟩, fun _ q => ⟨xs, q, Nat.le_refl _⟩, ?_⟩
  rintro i H v H' _ q ⟨T, x, h1, h2, h3, h4⟩
  exact ⟨T, .int (i : Nat), x, h1, h2, h3, rfl, h4 xs q⟩
theorem walk_zipT {K : PySem.W.Frag} {a b : Addr} {xs ys : List V} {n : Nat} (hn : n = min xs.length ys.length) : Walk (RZ.ItzT K a b) n (fun H => SqT K H a xs ∧ SqT K H b ys) (YPair (fun i => xs[i]?) (fun i => ys[i]?)) := by
  subst hn
  refine ⟨?_, fun _ q => ⟨xs, ys, q.1, q.2, by omega⟩, ?_⟩
  · intro i _ hi q
    have h1 : i < xs.length := by omega
    have h2 : i < ys.length := by omega
    exact ⟨xs, ys, xs[i], ys[i], q.1, q.2, by simp [h1], by simp [h2]⟩
  · rintro i H v H' _ q ⟨T, x, z, h1, h2, h3, h4, h5⟩
    exact ⟨T, x, z, h1, h2, h3, h4 xs q.1, h5 ys q.2⟩

/-! enumerate(t) is made -/
theorem meets_enumT (l : Addr) (items : Array Value) (n : Nat) (dct : Option Addr) (sl : Array (Option Value)) :
    Meets (Builtin.«enumerate.__new__» ⟨[.type "enumerate", .ref l], []⟩) (fun _ R s => s.heap.get? l = some { cls := .type "tuple", dict := dct, data := .seq items n, slots := sl } ∧
      R (.ok (.ret (.ref (s.heap.push { cls := .type "tuple_iterator", data := .fields #[.ref l, .int 0 0] }).objs.size)))
        { s with heap := (s.heap.push { cls := .type "tuple_iterator", data := .fields #[.ref l, .int 0 0] }).push { cls := .type "enumerate", data := .fields #[.none, .bool false, .ref s.heap.objs.size, rawInt 0, .none, .none] } }) :=
  .of_wp fun prog w A R s h => by
    obtain ⟨hp, g, d, tk, os⟩ := s
    obtain ⟨hl, h⟩ := h
    have hsub := sub_enumerate
    have tup : Heap.IsTuple (Shared.heap ⟨hp, g, d, tk, os⟩) l items := ⟨_, hl, rfl, n, rfl⟩
    wp_walk using AutoSeq1.wpAny_loadPart' hl
    refine wpAny_stack_any fun st => wpAny_pure ?_
    split
    · rename_i c _ _ _ _ _
      cases (c == Value.type "enumerate")
      · wp_walk using AutoSeq1.wpAny_loadPart' hl, wpAny_pyIter_tuple tup
        exact ⟨_, rfl, h⟩
      · wp_walk using AutoSeq1.wpAny_loadPart' hl, wpAny_pyIter_tuple tup
        exact ⟨_, rfl, h⟩
    · wp_walk using AutoSeq1.wpAny_loadPart' hl, wpAny_pyIter_tuple tup
      exact ⟨_, rfl, h⟩
theorem call_enumT {prog : Program} {w : World} {A : Around} {E : Value → Shared → Prop} {s : Shared} {l : Addr} {items : Array Value} {Q : Value → Shared → Prop} (hL : s.heap.IsTuple l items)
    (h : ∀ h', IsEnum h' (s.heap.objs.size + 1) s.heap.objs.size 0 .none → h'.IsTupleIter s.heap.objs.size l 0 → (∀ b o, s.heap.get? b = some o → h'.get? b = some o) → Q (.ref (s.heap.objs.size + 1)) { s with heap := h' }) :
    wpAny (model prog w) A (call (.type "enumerate") [.ref l]) Q E s := by
  obtain ⟨⟨c, dct, dt, sl⟩, hl, hc, n, hd⟩ := hL
  dsimp only at hc hd
  subst hc hd
  refine callType_new F.called_enumerate (by decide) (F.typeCall_enumerate_1 _) (F.newCall_enumerate_1 _) (fun obj => F.args_object_init_2 obj _) F.entry_enumerate_new (meets_enumT l items n dct sl) ⟨hl, ?_⟩
  have hz : (s.heap.push { cls := .type "tuple_iterator", data := .fields #[.ref l, .int 0 0] }).objs.size = s.heap.objs.size + 1 := Heap.size_push ..
  show _ ∧ _
  rw [hz]
  have he : IsEnum ((s.heap.push { cls := .type "tuple_iterator", data := .fields #[.ref l, .int 0 0] }).push { cls := .type "enumerate", data := .fields #[.none, .bool false, .ref s.heap.objs.size, rawInt 0, .none, .none] }) (s.heap.objs.size + 1) s.heap.objs.size 0 .none := by
    have q := Heap.get?_push_size (s.heap.push { cls := .type "tuple_iterator", data := .fields #[.ref l, .int 0 0] }) (o := { cls := .type "enumerate", data := .fields #[.none, .bool false, .ref s.heap.objs.size, rawInt 0, .none, .none] }) rfl
    rw [hz] at q
    exact q
  exact ⟨⟨_, he, rfl⟩, h _ he ⟨_, Heap.get?_push_of_some _ (Heap.get?_push_size _ rfl), rfl, rfl⟩ (fun b o x => Heap.get?_push_of_some _ (Heap.get?_push_of_some _ x))⟩
def iEnumT (K : PySem.W.Frag) (ta : TA) : TI := fun σ H R => ta σ H fun vs H1 => ∃ a xs, vs = [.ref a] ∧ SqT K H1 a xs ∧ R (IteT K a) H1
theorem pi_enumT {X : Cx} {e : Expr} {ta : TA} {p pos tpos : Pos} {elts : List Expr} {kk : Nat} (hg : Gl X "enumerate") (hm : X.mg "enumerate" = none) (ha : PA X [e] ta) (hs : starEach [e] X.env = [(false, eval e X.env)] := by rfl) :
    PI X (.Tuple elts kk tpos) (.Call (.Name "enumerate" p) [e] [] pos) (iEnumT X.K ta) := by
  constructor
  intro pins s σ H R I h
  refine Call_ (ld_blt I hg hm boot_enumerate (PyProof.Rows.callWith_type1 (thn (ha.run pos pins s σ H _ I h) ?_) hs rfl))
  rintro us s1 ⟨vs, H1, I1, r1, a, xs, rfl, hq, q⟩
  obtain ⟨u, rfl, ru⟩ := vals1 r1
  cases ru
  obtain ⟨its, rv, p', hz⟩ := I1.tuple hq
  refine call_enumT (show s1.heap.IsTuple a its.toArray from p') ?_
  intro h' he hit hk
  refine wpAny_pyIter_enum he ?_
  have I2 : Inv X pins σ H1 { s1 with heap := h' } := I1.kept (t' := s1.toks) hk
  refine ⟨s1.heap.objs.size + 1, [s1.heap.objs.size + 1, s1.heap.objs.size], _, _, H1, rfl, I2, turn_enumT a (s1.heap.objs.size + 1) s1.heap.objs.size, ⟨⟨.none, he⟩, hit, Nat.succ_ne_self _⟩, ?_, q⟩
  intro b hb
  have two : b = s1.heap.objs.size + 1 ∨ b = s1.heap.objs.size := by simpa using hb
  have hle : s1.heap.objs.size ≤ b := by
    rcases two with rfl | rfl
    · exact Nat.le_succ _
    · exact Nat.le_refl _
  exact I1.fpOk hle (I1.hok.fresh hle)
end Bb
set_option Elab.async false
set_option linter.all false
set_option maxRecDepth 100000
set_option maxHeartbeats 2000000
namespace Bb
open PySem PySem.Spec PyProof.Rows L2
/-! lists of ints as data -/
theorem dp_ints {K : PySem.W.Frag} {H : Hp} : ∀ ns : List Int, DpAll K H (ns.map V.int) (ns.map PyData.int)
  | [] => .nil
  | n :: ns => .cons (.int n) (dp_ints ns)
theorem eqv_ints : ∀ ns ms : List Int, PyData.eqvAll (ns.map PyData.int) (ms.map PyData.int) = decide (ns = ms)
  | [], [] => rfl
  | [], m :: ms => by simp [PyData.eqvAll]
  | n :: ns, [] => by simp [PyData.eqvAll]
  | n :: ns, m :: ms => by
    have ih := eqv_ints ns ms
    simp only [List.map_cons, PyData.eqvAll, PyData.eqv, ih]
    by_cases h : n = m
    · subst h
      simp
    · simp [h]
theorem lay_ints : ∀ ns : List Int, PyData.canLayAll0 (ns.map PyData.int) = true
  | [] => rfl
  | n :: ns => by
    have ih := lay_ints ns
    simp [PyData.canLayAll0, PyData.canLay0, ih]
theorem depth_ints : ∀ ns : List Int, PyData.depthAll (ns.map PyData.int) = 0
  | [] => rfl
  | n :: ns => by
    have ih := depth_ints ns
    simp [PyData.depthAll, PyData.depth, ih]
theorem shaped_list (ns : List Int) : SeqAt.shaped (.list (ns.map PyData.int)) = true := by
  unfold SeqAt.shaped
  simp [PyData.canLay0, lay_ints, PyData.depth, depth_ints]
theorem shaped_tup (ns : List Int) : SeqAt.shaped (.tuple (ns.map PyData.int)) = true := by
  unfold SeqAt.shaped
  simp [PyData.canLay0, lay_ints, PyData.depth, depth_ints]
theorem show_ints : ∀ ns : List Int, (∀ n ∈ ns, n.natAbs < 10 ^ 18) → PyData.showableAll (ns.map PyData.int) = true
  | [], _ => rfl
  | n :: ns, h => by
    have ih := show_ints ns fun x hx => h x (List.mem_cons_of_mem _ hx)
    have h1 := h n List.mem_cons_self
    have h2 : n.natAbs.log2 < 1920 := by
      by_cases z : n.natAbs = 0
      · rw [z]
        decide
      · exact (Nat.log2_lt z).mpr (Nat.lt_of_lt_of_le h1 (by decide +kernel))
    simp [PyData.showableAll, PyData.showable, ih, h2]
theorem textFrom_le : ∀ (ts : List Str) (k : Nat) (acc : Str), (textFrom k acc ts).length ≤ acc.length + piled ts
  | [], k, acc => Nat.le_add_right _ _
  | t :: r, k, acc => by
    have ih := textFrom_le r (k + 1) (acc ++ (if k > 0 then ", " else "" : String) ++ t)
    show (textFrom (k + 1) (acc ++ (if k > 0 then ", " else "" : String) ++ t) r).length ≤ _
    rw [strLen_append, strLen_append] at ih
    rw [piled_cons]
    have e : (((if k > 0 then ", " else "" : String) : Str)).length ≤ 2 := by
      split <;> decide +kernel
    omega
theorem listText_le (ts : List Str) : (listText ts).length ≤ piled ts + 2 := by
  unfold listText
  rw [strLen_append]
  have h := textFrom_le ts 0 "["
  have e1 : (("[" : String) : Str).length = 1 := by decide +kernel
  have e2 : (("]" : String) : Str).length = 1 := by decide +kernel
  rw [e1] at h
  rw [e2]
  omega
theorem int_shown {i : Int} (h : i.natAbs < 10 ^ 18) : (PyData.int i).shown.length ≤ 19 := by
  have e := int_text_length_le10 (k := 18) (by decide) h
  show (Str.ofString (toString i)).length ≤ 19
  rw [PySem.ofString_length]
  exact e
theorem piled_ints : ∀ ns : List Int, (∀ n ∈ ns, n.natAbs < 10 ^ 18) → piled (PyData.shownAll (ns.map PyData.int)) ≤ 21 * ns.length
  | [], _ => Nat.le_refl _
  | n :: ns, h => by
    have ih := piled_ints ns fun x hx => h x (List.mem_cons_of_mem _ hx)
    have h1 := int_shown (h n List.mem_cons_self)
    rw [List.map_cons]
    show piled ((PyData.int n).shown :: PyData.shownAll (ns.map PyData.int)) ≤ _
    rw [piled_cons, List.length_cons]
    omega
/-- what repr asks of a list of ints -/
theorem repr_ints {K : PySem.W.Frag} {H : Hp} {a : Addr} {ns : List Int} {Q : VK} (h : SqL K H a (ns.map V.int)) (hr : ∀ n ∈ ns, n.natAbs < 10 ^ 18) (hl : ns.length ≤ 1000) (q : Q (.str (PyData.list (ns.map PyData.int)).shown) H) : rRepr K [.ref a] H Q := by
  refine ⟨_, .list (ns.map PyData.int), rfl, .lst h (dp_ints ns), show_ints ns hr, ?_, ?_, q⟩
  · show PyData.depthAll (ns.map PyData.int) + 1 ≤ 60
    rw [depth_ints]
    decide
  · have h1 := listText_le (PyData.shownAll (ns.map PyData.int))
    have h2 := piled_ints ns hr
    show (listText (PyData.shownAll (ns.map PyData.int))).length ≤ sizeLine
    rw [sizeLine_eq]
    omega
theorem repr_txt {K : PySem.W.Frag} {H : Hp} {z : Str} {Q : VK} (hz : (reprText z).length ≤ sizeLine) (q : Q (.str (PyData.str z).shown) H) : rRepr K [.str z] H Q :=
  ⟨_, .str z, rfl, .str z, rfl, Nat.zero_le _, hz, q⟩
/-! t + u, t[lo:hi] of tuples: some tuple, new or not -/
def rCatB (K : PySem.W.Frag) : R2 := fun x y H Q => ∃ a b xs ys, x = .ref a ∧ y = .ref b ∧ SqT K H a xs ∧ SqT K H b ys ∧ xs.length + ys.length ≤ sizeLine ∧ ∀ p H', Same H H' → SqT K H' p (xs ++ ys) → Q (.ref p) H'
theorem op_catB {X : Cx} : OpR X (binaryOp .Add) (rCatB X.K) := by
  intro pins s σ H x y v u Q I rx ry h
  obtain ⟨a, b, xs, ys, rfl, rfl, ha, hb, hz, q⟩ := h
  refine op_catA pins s σ H _ _ v u Q I rx ry ⟨a, b, xs, ys, rfl, rfl, ha, hb, hz, ?_, ?_, ?_⟩
  · rintro rfl
    exact q b H (Same.refl H) hb
  · rintro _ rfl
    exact q a H (Same.refl H) (by rw [List.append_nil]; exact ha)
  · intro _ _ p hp
    refine q p _ (fun c o e => ?_) (SqT.of upd_same)
    rw [upd_ne (ne_of_none e hp)]
    exact e
end Bb
set_option linter.all false
namespace K3
/-! limits that are in order; the classes of an age, reckoned twice -/
structure OkL (ns : List Int) : Prop where
  len : ns.length ≤ 4
  rng : ∀ n ∈ ns, 1 ≤ n ∧ n ≤ 99
  up : ns.Pairwise (· < ·)
def fst (ns : List Int) (age : Int) : Nat := (ns.filter fun n => decide (n ≤ age)).length
/-- the program's way -/
def clsP (ns : List Int) (up : Bool) (age : Int) : List Int :=
  if up = true then (List.range ((ns.length + 1 : Int) - (fst ns age : Int)).toNat).map fun i => (fst ns age : Int) + (i : Nat) else [(fst ns age : Int)]
/-- the law's way -/
def stepC (up : Bool) (age : Int) (f : List Int) (p : Int × Nat) : List Int := if age < p.1 ∧ (up = true ∨ f = []) then f ++ [(p.2 : Int)] else f
def clsL (bars : List Int) (up : Bool) (age : Int) : List Int := bars.zipIdx.foldl (stepC up age) []
theorem low_part {up : Bool} {age : Int} : ∀ (l : List Int) (k : Nat) (f : List Int), (∀ b ∈ l, b ≤ age) → (l.zipIdx k).foldl (stepC up age) f = f
  | [], _, _, _ => rfl
  | b :: l, k, f, h => by
    have h1 := h b List.mem_cons_self
    rw [List.zipIdx_cons, List.foldl_cons]
    have e : stepC up age f (b, k) = f := by
      unfold stepC
      rw [if_neg]
      intro z
      have := z.1
      dsimp only at this
      omega
    rw [e]
    exact low_part l (k + 1) f fun x hx => h x (List.mem_cons_of_mem _ hx)
theorem high_up {age : Int} : ∀ (l : List Int) (k : Nat) (f : List Int), (∀ b ∈ l, age < b) → (l.zipIdx k).foldl (stepC true age) f = f ++ (List.range l.length).map fun i => (k : Int) + (i : Nat)
  | [], k, f, _ => by simp
  | b :: l, k, f, h => by
    have h1 := h b List.mem_cons_self
    rw [List.zipIdx_cons, List.foldl_cons]
    have e : stepC true age f (b, k) = f ++ [(k : Int)] := by
      unfold stepC
      rw [if_pos ⟨h1, .inl rfl⟩]
    rw [e, high_up l (k + 1) _ fun x hx => h x (List.mem_cons_of_mem _ hx)]
    rw [List.length_cons, List.range_succ_eq_map, List.map_cons, List.map_map, List.append_assoc]
    congr 1
    rw [List.singleton_append]
    congr 1
    simp
    intro a _
    omega
theorem high_one {age : Int} : ∀ (l : List Int) (k : Nat) (f : List Int), f ≠ [] → (l.zipIdx k).foldl (stepC false age) f = f
  | [], _, _, _ => rfl
  | b :: l, k, f, h => by
    rw [List.zipIdx_cons, List.foldl_cons]
    have e : stepC false age f (b, k) = f := by
      unfold stepC
      rw [if_neg]
      intro z
      rcases z.2 with q | q
      · cases q
      · exact h q
    rw [e]
    exact high_one l (k + 1) f h
theorem split_at {age : Int} : ∀ (ns : List Int), ns.Pairwise (· < ·) → ns = (ns.take (fst ns age)) ++ (ns.drop (fst ns age)) ∧ (∀ b ∈ ns.take (fst ns age), b ≤ age) ∧ ∀ b ∈ ns.drop (fst ns age), age < b
  | [], _ => ⟨rfl, fun _ h => by simp at h, fun _ h => by simp at h⟩
  | b :: l, h => by
    refine ⟨(List.take_append_drop _ _).symm, ?_⟩
    obtain ⟨h1, h2⟩ := List.pairwise_cons.mp h
    by_cases c : b ≤ age
    · have e : fst (b :: l) age = fst l age + 1 := by
        unfold fst
        rw [List.filter_cons, if_pos (decide_eq_true c), List.length_cons]
      obtain ⟨_, i1, i2⟩ := split_at (age := age) l h2
      rw [e]
      refine ⟨?_, ?_⟩
      · intro x hx
        rw [List.take_succ_cons] at hx
        rcases List.mem_cons.mp hx with q | q
        · omega
        · exact i1 x q
      · intro x hx
        rw [List.drop_succ_cons] at hx
        exact i2 x hx
    · have all : ∀ x ∈ b :: l, age < x := by
        intro x hx
        rcases List.mem_cons.mp hx with q | q
        · omega
        · have := h1 x q
          omega
      have e : fst (b :: l) age = 0 := by
        unfold fst
        rw [List.length_eq_zero_iff, List.filter_eq_nil_iff]
        intro x hx
        have := all x hx
        simp
        omega
      rw [e]
      exact ⟨fun x hx => by simp at hx, fun x hx => all x (by simpa using hx)⟩
theorem fst_le (ns : List Int) (age : Int) : fst ns age ≤ ns.length := List.length_filter_le _ _
theorem cls_eq {ns : List Int} (ok : OkL ns) (up : Bool) {age : Int} (ha : age ≤ 300) : clsL (ns ++ [1000]) up age = clsP ns up age := by
  obtain ⟨e, lo, hi⟩ := split_at (age := age) ns ok.up
  have fl := fst_le ns age
  unfold clsL
  have e2 : ns ++ [1000] = ns.take (fst ns age) ++ (ns.drop (fst ns age) ++ [1000]) := by
    rw [← List.append_assoc, ← e]
  have hi2 : ∀ b ∈ ns.drop (fst ns age) ++ [1000], age < b := by
    intro b hb
    rcases List.mem_append.mp hb with q | q
    · exact hi b q
    · have : b = 1000 := by simpa using q
      omega
  rw [e2, List.zipIdx_append, List.foldl_append, low_part _ _ _ lo]
  have lt : (ns.take (fst ns age)).length = fst ns age := by
    rw [List.length_take]
    omega
  rw [lt]
  unfold clsP
  cases up with
  | true =>
    rw [if_pos rfl, high_up _ _ _ hi2]
    have l2 : (ns.drop (fst ns age) ++ [1000]).length = ((ns.length + 1 : Int) - (fst ns age : Int)).toNat := by
      rw [List.length_append, List.length_drop, List.length_singleton]
      omega
    rw [l2]
    simp
  | false =>
    rw [if_neg Bool.false_ne_true]
    generalize ns.drop (fst ns age) = d at hi2 ⊢
    cases d with
    | nil =>
      have h1 := hi2 1000 (by simp)
      simp [stepC, h1]
    | cons x d =>
      have h1 := hi2 x (by simp)
      rw [List.cons_append, List.zipIdx_cons, List.foldl_cons]
      have e3 : stepC false age [] (x, 0 + fst ns age) = [((0 + fst ns age : Nat) : Int)] := by
        unfold stepC
        rw [if_pos ⟨h1, .inr rfl⟩]
        rfl
      rw [e3, high_one _ _ _ (by simp)]
      simp
theorem clsP_len {ns : List Int} (ok : OkL ns) (up : Bool) (age : Int) : (clsP ns up age).length ≤ 5 := by
  have := ok.len
  unfold clsP
  split
  · rw [List.length_map, List.length_range]
    omega
  · simp
theorem clsP_rng {ns : List Int} (ok : OkL ns) (up : Bool) (age : Int) : ∀ z ∈ clsP ns up age, 0 ≤ z ∧ z ≤ 4 := by
  have h1 := ok.len
  have h2 := fst_le ns age
  intro z hz
  unfold clsP at hz
  split at hz
  · obtain ⟨i, hi, rfl⟩ := List.mem_map.mp hz
    have := List.mem_range.mp hi
    omega
  · have : z = (fst ns age : Int) := by simpa using hz
    omega
end K3
set_option Elab.async false
set_option linter.all false
set_option maxRecDepth 100000
set_option maxHeartbeats 2000000
namespace K3
open PySem PySem.Spec PyProof.Rows L2 Bb

/-! the text by places -/
def top (i : Nat) : Stmt := PySem.Challenge.pw_bestsbook_k03_classes_of_ages.main.body.getD i (.Pass ⟨0, 0, 0, 0⟩)
abbrev sIsNum : Stmt := top 17
abbrev sFrom : Stmt := top 18
abbrev sIsWind : Stmt := top 19
abbrev sAre : Stmt := top 25
abbrev sCell : Stmt := top 28
abbrev sPen : Stmt := top 29
abbrev sDraw : Stmt := top 30
abbrev sPick : Stmt := top 31
abbrev sKind : Stmt := top 32
abbrev sCame : Stmt := top 33
abbrev sAny : Stmt := top 34
abbrev sOdd : Stmt := top 35
abbrev sNum : Stmt := top 36
abbrev sTerms : Stmt := top 37
abbrev sLaw : Stmt := top 39
abbrev sInit : Stmt := inClass (top 26) 0
abbrev sEq : Stmt := inClass (top 26) 1
abbrev sLen : Stmt := inClass (top 26) 2
abbrev sRepr : Stmt := inClass (top 26) 3
abbrev sCls : Stmt := inClass (top 26) 4
abbrev sClasses : Stmt := top 38
abbrev Fn (K : PySem.W.Frag) (x q : Str) (st : Stmt) (f : Addr) (fd : FuncData) : Prop := FunD K x q (defArgs st) (defBody st) (defScope st) [] [] f fd

/-! things of any kind, as the law makes them -/
inductive Th (H : Hp) : V → Prop where
  | non : Th H .non
  | bl (b : Bool) : Th H (.bl b)
  | int (i : Int) : Th H (.int i)
  | str (z : Str) : Th H (.str z)
  | lst {a : Addr} {xs : List V} (h : H a = some (.lst xs)) : Th H (.ref a)
  | tup {a : Addr} {xs : List V} (h : H a = some (.tup xs)) : Th H (.ref a)
  | dic {a : Addr} {kvs : List (Key × V)} (h : H a = some (.dK kvs)) : Th H (.ref a)
def isNum : V → Bool
  | .int _ => true
  | _ => false
def numIn (lo hi : Int) : V → Bool
  | .int i => decide (lo ≤ i) && decide (i ≤ hi)
  | _ => false
def anInt : V → Bool
  | .int _ => true
  | .bl _ => true
  | _ => false
def aBool : V → Bool
  | .bl _ => true
  | _ => false
theorem kt {a b : String} {r r' : Bool} (h : kitB a b = some r) (e : r = r') : kitB a b = some r' := by
  rw [← e]
  exact h
theorem Th.ty {K : PySem.W.Frag} {H : Hp} {x : V} (h : Th H x) : ∃ n, TyX K H x (.type n) ∧ kitB n "int" = some (anInt x) ∧ kitB n "bool" = some (aBool x) := by
  cases h with
  | non => exact ⟨_, .base .non, kt (r := false) (by decide +kernel) rfl, kt (r := false) (by decide +kernel) rfl⟩
  | bl b => exact ⟨_, .base (.bl b), kt (r := true) (by decide +kernel) rfl, kt (r := true) (by decide +kernel) rfl⟩
  | int i => exact ⟨_, .base (.int i), kt (r := true) (by decide +kernel) rfl, kt (r := false) (by decide +kernel) rfl⟩
  | str z => exact ⟨_, .base (.str z), kt (r := false) (by decide +kernel) rfl, kt (r := false) (by decide +kernel) rfl⟩
  | lst h => exact ⟨_, .base (.lst h), kt (r := false) (by decide +kernel) rfl, kt (r := false) (by decide +kernel) rfl⟩
  | tup h => exact ⟨_, .base (.tup h), kt (r := false) (by decide +kernel) rfl, kt (r := false) (by decide +kernel) rfl⟩
  | dic h => exact ⟨_, .base (.dK h), kt (r := false) (by decide +kernel) rfl, kt (r := false) (by decide +kernel) rfl⟩
/-- the built-in names are nobody else's -/
structure Free (mg : Str → Option Value) : Prop where
  isi : mg "isinstance" = none
  int_ : mg "int" = none
  bool_ : mg "bool" = none
  tup_ : mg "tuple" = none
  list_ : mg "list" = none
  len_ : mg "len" = none
  all_ : mg "all" = none
  zip_ : mg "zip" = none
  rng_ : mg "range" = none
  enu_ : mg "enumerate" = none
  srt_ : mg "sorted" = none
  rep_ : mg "repr" = none
  ve_ : mg "ValueError" = none
  le_ : mg "LookupError" = none

/-! is_number, is_number_from, _law_number -/
def spIsNum : Sp := fun vs H Q _ => ∃ x, vs = [x] ∧ Th H x ∧ Q (.bl (isNum x)) H
def spFrom : Sp := fun vs H Q _ => ∃ x lo hi, vs = [x, .int lo, .int hi] ∧ Th H x ∧ Q (.bl (numIn lo hi x)) H
section
variable {P : Program} {w : World} {K : PySem.W.Frag} {mg : Str → Option Value} {base : Heap} {f : Addr} {fd : FuncData}
theorem scIsNum : FnScope ["thing"] ["thing"] (defScope sIsNum) := ⟨rfl, rfl, rfl, by decide +kernel, rfl, by decide +kernel, by decide +kernel⟩
theorem ok_isnum (F : Fn K "is_number" "is_number" sIsNum f fd) (T : Free mg) : FnOk P w K mg base L2.CX0 1 f fd ["thing"] spIsNum := by
  refine F.ok scIsNum (fun vs H Q E h => ?_) (fun cdv A outer s H vs Q E hr h => ?_)
  · obtain ⟨x, rfl, _⟩ := h
    rfl
  · obtain ⟨x, rfl, hx, q⟩ := h
    obtain ⟨n, ty, k1, k2⟩ := hx.ty (K := K)
    refine ⟨_, PSs.nox (pss_one (ps_ret (pe_and (pe_callB call_isi rfl T.isi boot_isinstance (pa_cons (pv 0) (pa_cons (pe_bltn rfl T.int_ (by decide +kernel) (v := .ty "int") rfl) pa_nil)))
      (pe_one (pe_not (pe_callB call_isi rfl T.isi boot_isinstance (pa_cons (pv 0) (pa_cons (pe_bltn rfl T.bool_ (by decide +kernel) (v := .ty "bool") rfl) pa_nil)))))))), ?_⟩
    refine ⟨x, rfl, _, _, _, _, _, rfl, .ty "int", ty, kit_ty k1, _, rfl, ?_⟩
    cases x with
    | int i => exact ⟨_, rfl, _, _, _, _, _, rfl, .ty "bool", ty, kit_ty k2, _, rfl, q⟩
    | bl b => exact ⟨_, rfl, _, _, _, _, _, rfl, .ty "bool", ty, kit_ty k2, _, rfl, q⟩
    | _ => exact q
theorem scFrom : FnScope ["thing", "least", "most"] ["thing", "least", "most"] (defScope sFrom) := ⟨rfl, rfl, rfl, by decide +kernel, rfl, by decide +kernel, by decide +kernel⟩
theorem ok_from {fN : Addr} {fdN : FuncData} (F : Fn K "is_number_from" "is_number_from" sFrom f fd) (FN : Fn K "is_number" "is_number" sIsNum fN fdN) (gN : mg "is_number" = some (.ref fN)) (T : Free mg) : FnOk P w K mg base L2.CX0 2 f fd ["thing", "least", "most"] spFrom := by
  have GN : FnOk P w K mg base L2.CX0 1 fN fdN ["thing"] spIsNum := ok_isnum FN T
  have bN : Binds K fdN ["thing"] [] := FN.bindsN fun _ _ _ _ _ _ us hl => match us, hl with | [_], _ => rfl
  refine F.ok scFrom (fun vs H Q E h => ?_) (fun cdv A outer s H vs Q E hr h => ?_)
  · obtain ⟨x, lo, hi, rfl, _⟩ := h
    rfl
  · obtain ⟨x, lo, hi, rfl, hx, q⟩ := h
    refine ⟨_, PSs.nox (pss_one (ps_ret (pe_and (pe_call GN hr rfl gN FN.kp bN .nil pass0 (pa_cons (pv 0) pa_nil)) (pe_one (pe_chain op_le op_le (pv 1) (pv 0) (pv 2)))))), ?_⟩
    refine ⟨x, rfl, x, rfl, hx, _, rfl, ?_⟩
    cases x with
    | int i =>
      refine ⟨_, rfl, _, rfl, _, _, rfl, rfl, _, rfl, ?_⟩
      refine ite2 (fun c => ?_) (fun c => ?_)
      · refine ⟨_, rfl, _, _, rfl, rfl, ?_⟩
        have e : numIn lo hi (.int i) = decide (i ≤ hi) := by
          show (decide (lo ≤ i) && decide (i ≤ hi)) = _
          rw [c, Bool.true_and]
        rw [e] at q
        exact q
      · have e : numIn lo hi (.int i) = false := by
          show (decide (lo ≤ i) && decide (i ≤ hi)) = _
          rw [Bool.eq_false_iff.mpr c, Bool.false_and]
        rw [e] at q
        exact q
    | _ => exact q
end
end K3
set_option Elab.async false
set_option linter.all false
set_option maxRecDepth 100000
set_option maxHeartbeats 2000000
namespace K3
open PySem PySem.Spec PyProof.Rows L2 Bb
theorem same_upd {H H' : Hp} {D : Addr} {o : HO} (s : Same H H') (hD : H D = none) : Same H (upd H' D o) := fun b u e => by
  rw [upd_ne (ne_of_none e hD)]
  exact s b u e
theorem sqt_same {K : PySem.W.Frag} {H H' : Hp} {a : Addr} {xs : List V} (h : SqT K H a xs) (s : Same H H') : SqT K H' a xs := h.ext s
theorem sql_same {K : PySem.W.Frag} {H H' : Hp} {a : Addr} {xs : List V} (h : SqL K H a xs) (s : Same H H') : SqL K H' a xs := h.ext s
theorem get_map {ns : List Int} {i : Nat} {x : V} (h : (ns.map V.int)[i]? = some x) : ∃ n, ns[i]? = some n ∧ x = .int n := by
  rw [List.getElem?_map] at h
  cases e : ns[i]? with
  | none =>
    rw [e] at h
    cases h
  | some n =>
    rw [e] at h
    exact ⟨n, rfl, (Option.some.inj h).symm⟩
/-- a constant of the module -/
def IsI (mg : Str → Option Value) (x : Str) (i : Int) : Prop := ∃ t, mg x = some (.int i t)
theorem pe_k {X : Cx} {x : Str} {i : Int} {pos : Pos} (h : IsI X.mg x i) (hg : Gl X x) (hd : (x == ("__debug__" : Str)) = false := by decide) : PE X (.Name x pos) (tC (.int i)) := by
  obtain ⟨t, e⟩ := h
  exact pe_glob hg e ⟨t, rfl⟩ hd
structure Cons (mg : Str → Option Value) : Prop where
  mostL : IsI mg "MOST_LIMITS" 4
  least : IsI mg "LEAST_LIMIT" 1
  most : IsI mg "MOST_LIMIT" 99
  wind : IsI mg "MOST_WIND" 99
  age : IsI mg "MOST_AGE" 300
def spAre (K : PySem.W.Frag) : Sp := fun vs H Q _ => ∃ a ns, vs = [.ref a] ∧ H a = some (.tup (ns.map V.int)) ∧ OkL ns ∧ ∀ H', Same H H' → Q (.bl true) H'
section
variable {P : Program} {w : World} {K : PySem.W.Frag} {mg : Str → Option Value} {base : Heap} {f : Addr} {fd : FuncData}
theorem scAre : FnScope ["thing", "limit", "ahead", "behind"] ["thing"] (defScope sAre) := ⟨rfl, rfl, rfl, by decide +kernel, rfl, by decide +kernel, by decide +kernel⟩
theorem rising_at {ns : List Int} (h : ns.Pairwise (· < ·)) {i : Nat} {x y : Int} (hx : ns[i]? = some x) (hy : (ns.drop 1)[i]? = some y) : x < y := by
  rw [List.getElem?_drop] at hy
  obtain ⟨h1, rfl⟩ := List.getElem?_eq_some_iff.mp hx
  obtain ⟨h2, rfl⟩ := List.getElem?_eq_some_iff.mp hy
  exact List.pairwise_iff_getElem.mp h _ _ _ _ (by omega)
theorem ok_are {fF fN : Addr} {fdF fdN : FuncData} (F : Fn K "are_limits" "are_limits" sAre f fd) (FF : Fn K "is_number_from" "is_number_from" sFrom fF fdF) (gF : mg "is_number_from" = some (.ref fF)) (FN : Fn K "is_number" "is_number" sIsNum fN fdN) (gN : mg "is_number" = some (.ref fN)) (T : Free mg) (C : Cons mg) :
    FnOk P w K mg base L2.CX0 3 f fd ["thing"] (spAre K) := by
  have GF : FnOk P w K mg base L2.CX0 2 fF fdF ["thing", "least", "most"] spFrom := ok_from FF FN gN T
  have bF : Binds K fdF ["thing", "least", "most"] [] := FF.bindsN fun _ _ _ _ _ _ us hl => match us, hl with | [_, _, _], _ => rfl
  refine F.ok scAre (fun vs H Q E h => ?_) (fun cdv A outer s H vs Q E hr h => ?_)
  · obtain ⟨a, ns, rfl, _⟩ := h
    rfl
  · obtain ⟨a, ns, rfl, ha, ok, q⟩ := h
    refine ⟨_, PSs.nox (pss_cons (ps_if (PW.pt (pw_or (pt_not (pt_val (pe_callB call_isi rfl T.isi boot_isinstance (pa_cons (pv 0) (pa_cons (pe_bltn rfl T.tup_ (by decide +kernel) (v := .ty "tuple") rfl) pa_nil)))))
        (pw_or1 (pt_cmpR op_gt (pe_callB call_len_seq rfl T.len_ boot_len (pa_cons (pv 0) pa_nil)) (pe_k C.mostL rfl) (nomark _))))) (pss_one (ps_ret pe_bl)) pss_nil)
      (pss_cons (ps_if (pt_not (pt_val (pe_callB (cr_all rfl) rfl T.all_ (by decide +kernel) (pa_cons (pe_lc (own := [("limit", 1)]) (g := gName 1) (tt := tYes) rfl scAre.nd (pi_tup (pv 0)) (blkOk_by (N := ["thing", "limit", "ahead", "behind"]) (sc := defScope sAre) (by decide +kernel)) (fun _ _ _ _ _ => pg_name (i := 1) scAre.nd rfl (Or.inl rfl)) (fun _ _ _ _ _ => pts_nil)
          (fun _ _ _ _ _ => pe_call GF hr rfl gF FF.kp bF .nil pass0 (pa_cons (pv 1) (pa_cons (pe_k C.least rfl) (pa_cons (pe_k C.most rfl) pa_nil))))) pa_nil)))) (pss_one (ps_ret pe_bl)) pss_nil)
      (pss_one (ps_ret (pe_callB (cr_all rfl) rfl T.all_ (by decide +kernel) (pa_cons (pe_lc (own := [("ahead", 2), ("behind", 3)]) (g := gTup K 2 (gCons (gName 2) (gCons (gName 3) gNil))) (tt := tYes) rfl scAre.nd (RZ.pi_zipA (by rfl) T.zip_ (pa_cons (pv 0) (pa_cons (pe_slice sl_tupA (pv 0) (po_some pe_int) po_none) pa_nil))) (blkOk_by (N := ["thing", "limit", "ahead", "behind"]) (sc := defScope sAre) (by decide +kernel))
          (fun _ _ _ _ _ => pg_tup rfl (pgs_cons (pg_name (i := 2) scAre.nd rfl (Or.inl rfl) (Or.inr rfl)) (pgs_cons (pg_name (i := 3) scAre.nd rfl (Or.inl rfl) (Or.inr rfl)) pgs_nil))) (fun _ _ _ _ _ => pts_nil)
          (fun _ _ _ _ _ => pe_cmpR op_lt (pv 2) (pv 3) (nomark _))) pa_nil)))))), ?_⟩
    -- isinstance, len
    refine ⟨_, rfl, _, _, _, _, _, rfl, .ty "tuple", .base (.tup ha), kit_ty (r := true) (by decide +kernel), _, rfl, ?_⟩
    refine iteF ?_
    refine ⟨_, rfl, a, _, rfl, .inr (SqT.of ha), _, _, rfl, rfl, _, rfl, ?_⟩
    have hlen := ok.len
    have e1 : decide ((4 : Int) < (((ns.map V.int).length : Nat) : Int)) = false := decide_eq_false (by rw [List.length_map]; omega)
    show if decide ((4 : Int) < (((ns.map V.int).length : Nat) : Int)) = true then _ else _
    rw [e1]
    refine iteF ?_
    -- each by itself
    refine ⟨_, rfl, a, rfl, ⟨_, SqT.of ha⟩, fun D hD => lc_tup (K := K) (a := a) (xs := ns.map V.int) (fun i H' => Same H H' ∧ H' D = some (.lst ((List.replicate i true).map V.bl))) ⟨same_upd (Same.refl H) hD, upd_same⟩ (fun i H' _ p => sqt_same (SqT.of ha) p.1) ?_ ?_⟩
    · rintro i x H' hx ⟨sm, acc⟩
      obtain ⟨n, hn, rfl⟩ := get_map hx
      refine ⟨rfl, ?_⟩
      unfold tYes
      dsimp only
      rw [if_pos rfl]
      have rg := ok.rng n (List.mem_of_getElem? hn)
      have li := (List.getElem?_eq_some_iff.mp hn).1
      refine ⟨_, rfl, .int n, 1, 99, rfl, .int n, ?_⟩
      refine ⟨_, acc, small1000 (by simp; omega), same_upd sm hD, ?_⟩
      have e2 : numIn 1 99 (.int n) = true := by
        show (decide (1 ≤ n) && decide (n ≤ 99)) = true
        simp [rg.1, rg.2]
      rw [upd_same, e2, List.replicate_succ', List.map_append]
      rfl
    rintro H1 ⟨sm, acc⟩
    refine ⟨D, _, rfl, SqL.of acc, _, rfl, ?_⟩
    have e3 : (List.replicate (ns.map V.int).length true).all id = true := by simp
    rw [e3]
    refine iteF ?_
    -- rising
    have ha1 := sm a _ ha
    refine ⟨_, rfl, _, rfl, _, rfl, a, _, rfl, SqT.of ha1, ?_, ?_⟩
    · -- the slice is the whole: none
      intro wh
      have z : HT.sIx (ns.map V.int).length 0 (some ((1 : Nat) : Int)) = 0 := wh.1
      rw [HT.sIx_nat, List.length_map] at z
      have nil : ns = [] := List.length_eq_zero_iff.mp (by omega)
      obtain ⟨H2, eH⟩ : ∃ H2, H2 = H1 := ⟨_, rfl⟩
      have smz : Same H1 H2 := by
        rw [eH]
        exact Same.refl H1
      have ha2 : H2 a = some (.tup (ns.map V.int)) := smz a _ ha1
      have hb : SqT K H2 a ((ns.drop 1).map V.int) := by
        rw [nil] at ha2 ⊢
        exact SqT.of ha2
      rw [← eH]
      refine ⟨a, a, _, _, rfl, .inr ⟨SqT.of ha2, hb, fun D2 hD2 => lc_it (walk_zipT (xs := ns.map V.int) (ys := (ns.drop 1).map V.int) (n := (ns.drop 1).length) (by simp only [List.length_map, List.length_drop]; omega)) (fun i H' => Same H2 H' ∧ H' D2 = some (.lst ((List.replicate i true).map V.bl))) ⟨same_upd (Same.refl H2) hD2, upd_same⟩ (fun i H' _ p => ⟨sqt_same (SqT.of ha2) p.1, sqt_same hb p.1⟩) ?_ ?_⟩⟩
      · rintro i x H3 H4 hi ⟨sm3, acc3⟩ ⟨Tp, u, v, rfl, hT, rfl, hu, hv⟩
        obtain ⟨n, hn, rfl⟩ := get_map hu
        obtain ⟨m, hm, rfl⟩ := get_map hv
        have lt := rising_at ok.up hn hm
        have li : i < 4 := by
          have := (List.getElem?_eq_some_iff.mp hn).1
          omega
        refine ⟨Tp, _, rfl, SqT.of upd_same, rfl, _, _, rfl, _, _, rfl, ⟨rfl, rfl, ?_⟩⟩
        unfold tYes
        dsimp only
        rw [if_pos rfl]
        refine ⟨_, rfl, _, rfl, _, _, rfl, rfl, ?_⟩
        have nT : D2 ≠ Tp := ne_of_none acc3 hT
        refine ⟨_, by rw [upd_ne nT]; exact acc3, small1000 (by simp; omega), same_upd (same_upd sm3 (Same.free sm3 hT)) hD2, ?_⟩
        have e4 : decide (n < m) = true := decide_eq_true lt
        rw [upd_same, List.replicate_succ', List.map_append]
        dsimp only
        rw [e4]
        rfl
      · rintro H3 ⟨sm3, acc3⟩
        refine ⟨D2, _, rfl, SqL.of acc3, ?_⟩
        have e5 : (List.replicate (ns.drop 1).length true).all id = true := by simp
        rw [e5]
        exact q H3 (sm.trans (smz.trans sm3))
    · intro wh p hp
      obtain ⟨H2, eH⟩ : ∃ H2, H2 = upd H1 p (.tup (cutV (ns.map V.int) (some 1) none)) := ⟨_, rfl⟩
      have smz : Same H1 H2 := by
        rw [eH]
        exact same_upd (Same.refl H1) hp
      have ha2 : H2 a = some (.tup (ns.map V.int)) := smz a _ ha1
      have cut : cutV (ns.map V.int) (some 1) none = (ns.drop 1).map V.int := by
        unfold cutV
        rw [show (some (1 : Int)) = some ((1 : Nat) : Int) from rfl, HT.sIx_nat, HT.sIx_none, List.map_drop]
        rw [List.take_of_length_le (by first | (simp; done) | (simp; omega))]
        by_cases h1 : 1 ≤ (ns.map V.int).length
        · rw [Nat.min_eq_left h1]
        · have nil : ns.map V.int = [] := List.length_eq_zero_iff.mp (by omega)
          rw [nil]
          rfl
      have hb : SqT K H2 p ((ns.drop 1).map V.int) := by
        rw [eH, cut]
        exact SqT.of upd_same
      rw [← eH]
      refine ⟨a, p, _, _, rfl, .inr ⟨SqT.of ha2, hb, fun D2 hD2 => lc_it (walk_zipT (xs := ns.map V.int) (ys := (ns.drop 1).map V.int) (n := (ns.drop 1).length) (by simp only [List.length_map, List.length_drop]; omega)) (fun i H' => Same H2 H' ∧ H' D2 = some (.lst ((List.replicate i true).map V.bl))) ⟨same_upd (Same.refl H2) hD2, upd_same⟩ (fun i H' _ p => ⟨sqt_same (SqT.of ha2) p.1, sqt_same hb p.1⟩) ?_ ?_⟩⟩
      · rintro i x H3 H4 hi ⟨sm3, acc3⟩ ⟨Tp, u, v, rfl, hT, rfl, hu, hv⟩
        obtain ⟨n, hn, rfl⟩ := get_map hu
        obtain ⟨m, hm, rfl⟩ := get_map hv
        have lt := rising_at ok.up hn hm
        have li : i < 4 := by
          have := (List.getElem?_eq_some_iff.mp hn).1
          omega
        refine ⟨Tp, _, rfl, SqT.of upd_same, rfl, _, _, rfl, _, _, rfl, ⟨rfl, rfl, ?_⟩⟩
        unfold tYes
        dsimp only
        rw [if_pos rfl]
        refine ⟨_, rfl, _, rfl, _, _, rfl, rfl, ?_⟩
        have nT : D2 ≠ Tp := ne_of_none acc3 hT
        refine ⟨_, by rw [upd_ne nT]; exact acc3, small1000 (by simp; omega), same_upd (same_upd sm3 (Same.free sm3 hT)) hD2, ?_⟩
        have e4 : decide (n < m) = true := decide_eq_true lt
        rw [upd_same, List.replicate_succ', List.map_append]
        dsimp only
        rw [e4]
        rfl
      · rintro H3 ⟨sm3, acc3⟩
        refine ⟨D2, _, rfl, SqL.of acc3, ?_⟩
        have e5 : (List.replicate (ns.drop 1).length true).all id = true := by simp
        rw [e5]
        exact q H3 (sm.trans (smz.trans sm3))
end
end K3
set_option Elab.async false
set_option linter.all false
set_option maxRecDepth 100000
set_option maxHeartbeats 2000000
namespace K3
open PySem PySem.Spec PyProof.Rows L2 Bb
/-! the class Rules: its attributes in the order of their stores -/
def flds (l : Addr) (up : Bool) (wd : Int) (sh : Bool) : List (Str × V) := putF "shares" (.bl sh) (putF "wind" (.int wd) (putF "up" (.bl up) (putF "limits" (.ref l) [])))
theorem k1 : ¬ (("limits" : Str) = "up") := by decide +kernel
theorem k2 : ¬ (("limits" : Str) = "wind") := by decide +kernel
theorem k3 : ¬ (("limits" : Str) = "shares") := by decide +kernel
theorem k4 : ¬ (("up" : Str) = "wind") := by decide +kernel
theorem k5 : ¬ (("up" : Str) = "shares") := by decide +kernel
theorem k6 : ¬ (("wind" : Str) = "shares") := by decide +kernel
section
variable (l : Addr) (up : Bool) (wd : Int) (sh : Bool)
theorem f_limits : (flds l up wd sh).lookup ("limits" : Str) = some (.ref l) := by
  unfold flds
  rw [lookup_putF, if_neg k3, lookup_putF, if_neg k2, lookup_putF, if_neg k1, lookup_putF, if_pos rfl]
theorem f_up : (flds l up wd sh).lookup ("up" : Str) = some (.bl up) := by
  unfold flds
  rw [lookup_putF, if_neg k5, lookup_putF, if_neg k4, lookup_putF, if_pos rfl]
theorem f_wind : (flds l up wd sh).lookup ("wind" : Str) = some (.int wd) := by
  unfold flds
  rw [lookup_putF, if_neg k6, lookup_putF, if_pos rfl]
theorem f_shares : (flds l up wd sh).lookup ("shares" : Str) = some (.bl sh) := by
  unfold flds
  rw [lookup_putF, if_pos rfl]
theorem f_no {m : Str} (h1 : ¬ m = "shares") (h2 : ¬ m = "wind") (h3 : ¬ m = "up") (h4 : ¬ m = "limits") : (flds l up wd sh).lookup m = none := by
  unfold flds
  rw [lookup_putF, if_neg h1, lookup_putF, if_neg h2, lookup_putF, if_neg h3, lookup_putF, if_neg h4]
  rfl
theorem f_len : (flds l up wd sh).length ≤ 4 := by
  unfold flds
  have a1 := length_putF "limits" (.ref l) []
  have a2 := length_putF "up" (.bl up) (putF "limits" (.ref l) [])
  have a3 := length_putF "wind" (.int wd) (putF "up" (.bl up) (putF "limits" (.ref l) []))
  have a4 := length_putF "shares" (.bl sh) (putF "wind" (.int wd) (putF "up" (.bl up) (putF "limits" (.ref l) [])))
  simp only [List.length_nil] at a1
  omega
end
structure RulesT (K : PySem.W.Frag) (mg : Str → Option Value) (C : Addr) : Prop where
  cl : Cls K C
  nL : NoAttr K C "limits"
  nU : NoAttr K C "up"
  nW : NoAttr K C "wind"
  nS : NoAttr K C "shares"
  gC : mg "Rules" = some (.ref C)
  ha : PySem.W.findIn K (.ref C) "__class__" = some (some (.builtin "object.__class__"))
  hn : PySem.W.specialIn K (.builtin "object.__class__") "__get__" = some (some (.builtin "getset_descriptor.__get__"))
  ht : PySem.W.takesIn K (.builtin "object.__class__") = some true
  hm : PySem.W.mroIn K C (.type "object") = some true
  kit : PySem.W.kitOne K (.ref C) (.ref C) = some true
/-- rules at p: the instance, its tuple of limits -/
structure At (C : Addr) (H : Hp) (p l : Addr) (ns : List Int) (up : Bool) (wd : Int) (sh : Bool) : Prop where
  ob : ∃ dx, H p = some (.ins C dx (flds l up wd sh))
  li : H l = some (.tup (ns.map V.int))
  ok : OkL ns
theorem At.same {C : Addr} {H H' : Hp} {p l : Addr} {ns : List Int} {up : Bool} {wd : Int} {sh : Bool} (a : At C H p l ns up wd sh) (s : Same H H') : At C H' p l ns up wd sh := by
  obtain ⟨⟨dx, h1⟩, h2, h3⟩ := a
  exact ⟨⟨dx, s _ _ h1⟩, s _ _ h2, h3⟩
def spInit (C : Addr) : Sp := fun vs H Q _ => ∃ (p dx l : Addr) (ns : List Int) (up : Bool) (wd : Int) (sh : Bool), vs = [.ref p, .ref l, .bl up, .int wd, .bl sh] ∧ H p = some (.ins C dx []) ∧ H l = some (.tup (ns.map V.int)) ∧ OkL ns ∧ (-99 ≤ wd ∧ wd ≤ 99) ∧
  ∀ H', (∀ b o, H b = some o → b ≠ p → H' b = some o) → H' p = some (.ins C dx (flds l up wd sh)) → Q .non H'
def spLen (C : Addr) : Sp := fun vs H Q _ => ∃ (p l : Addr) (ns : List Int) (up : Bool) (wd : Int) (sh : Bool), vs = [.ref p] ∧ At C H p l ns up wd sh ∧ ∀ H', Same H H' → Q (.int (((ns.length + 1 : Nat) : Int))) H'
def spEq (C : Addr) : Sp := fun vs H Q _ => ∃ (p q l m : Addr) (ns ms : List Int) (up up' : Bool) (wd wd' : Int) (sh sh' : Bool), vs = [.ref p, .ref q] ∧ At C H p l ns up wd sh ∧ At C H q m ms up' wd' sh' ∧
  (ns = ms → up = up' → wd = wd' → sh = sh' → Q (.bl true) H) ∧ (¬ (ns = ms ∧ up = up' ∧ wd = wd' ∧ sh = sh') → Q (.bl false) H)
def spCls (C CA : Addr) : Sp := fun vs H Q E => ∃ (p l : Addr) (x : V) (ns : List Int) (up : Bool) (wd : Int) (sh : Bool), vs = [.ref p, x] ∧ At C H p l ns up wd sh ∧ Th H x ∧
  (∀ age, x = .int age → 0 ≤ age → age ≤ 300 → ∀ H' q, Same H H' → H q = none → H' q = some (.lst ((clsP ns up age).map V.int)) → Q (.ref q) H') ∧ (numIn 0 300 x = false → E (.ref CA) none H)
def spWind : Sp := fun vs H Q _ => ∃ x, vs = [x] ∧ Th H x ∧ Q (.bl (numIn (-99) 99 x)) H
section
variable {P : Program} {w : World} {K : PySem.W.Frag} {mg : Str → Option Value} {base : Heap} {f : Addr} {fd : FuncData}
theorem scIsWind : FnScope ["thing"] ["thing"] (defScope sIsWind) := ⟨rfl, rfl, rfl, by decide +kernel, rfl, by decide +kernel, by decide +kernel⟩
theorem ok_iswind {fF fN : Addr} {fdF fdN : FuncData} (F : Fn K "is_wind" "is_wind" sIsWind f fd) (FF : Fn K "is_number_from" "is_number_from" sFrom fF fdF) (gF : mg "is_number_from" = some (.ref fF)) (FN : Fn K "is_number" "is_number" sIsNum fN fdN) (gN : mg "is_number" = some (.ref fN)) (T : Free mg) (C : Cons mg) : FnOk P w K mg base L2.CX0 3 f fd ["thing"] spWind := by
  have GF : FnOk P w K mg base L2.CX0 2 fF fdF ["thing", "least", "most"] spFrom := ok_from FF FN gN T
  have bF : Binds K fdF ["thing", "least", "most"] [] := FF.bindsN fun _ _ _ _ _ _ us hl => match us, hl with | [_, _, _], _ => rfl
  refine F.ok scIsWind (fun vs H Q E h => ?_) (fun cdv A outer s H vs Q E hr hh => ?_)
  · obtain ⟨x, rfl, _⟩ := h
    rfl
  · obtain ⟨x, rfl, hx, q⟩ := hh
    refine ⟨_, PSs.nox (pss_one (ps_ret (pe_call GF hr rfl gF FF.kp bF .nil pass0 (pa_cons (pv 0) (pa_cons (pe_un un_neg (pe_k C.wind rfl)) (pa_cons (pe_k C.wind rfl) pa_nil)))))), ?_⟩
    exact ⟨_, rfl, _, rfl, x, _, _, rfl, hx, q⟩
end
/-- an own class of errors without an __init__ -/
structure ErrT (K : PySem.W.Frag) (mg : Str → Option Value) (x : Str) (C : Addr) : Prop where
  g : mg x = some (.ref C)
  ex : PySem.W.excIn K C He.veBase "ValueError.__new__" = true
  kp : PySem.W.keepIn K (.ref C) = true
  sb : PySem.W.subIn K (.ref C) (.type "BaseException") = some true
  ty : PySem.W.typeIn K (.ref C) = some (.type "type")
section
variable {P : Program} {w : World} {K : PySem.W.Frag} {mg : Str → Option Value} {base : Heap} {f : Addr} {fd : FuncData}
/-- the program's helpers as they stand -/
structure Hlp (K : PySem.W.Frag) (mg : Str → Option Value) : Prop where
  isn : ∃ a d, Fn K "is_number" "is_number" sIsNum a d ∧ mg "is_number" = some (.ref a)
  frm : ∃ a d, Fn K "is_number_from" "is_number_from" sFrom a d ∧ mg "is_number_from" = some (.ref a)
  are : ∃ a d, Fn K "are_limits" "are_limits" sAre a d ∧ mg "are_limits" = some (.ref a)
  wnd : ∃ a d, Fn K "is_wind" "is_wind" sIsWind a d ∧ mg "is_wind" = some (.ref a)
  fr : Free mg
  cs : Cons mg
theorem Hlp.from (h : Hlp K mg) : ∃ a d, FnOk P w K mg base L2.CX0 2 a d ["thing", "least", "most"] spFrom ∧ mg "is_number_from" = some (.ref a) ∧ PySem.W.keepIn K (.ref a) = true ∧ Binds K d ["thing", "least", "most"] [] := by
  obtain ⟨a1, d1, F1, g1⟩ := h.isn
  obtain ⟨a, d, F, g⟩ := h.frm
  exact ⟨a, d, ok_from F F1 g1 h.fr, g, F.kp, F.bindsN fun _ _ _ _ _ _ us hl => match us, hl with | [_, _, _], _ => rfl⟩
theorem Hlp.ar (h : Hlp K mg) : ∃ a d, FnOk P w K mg base L2.CX0 3 a d ["thing"] (spAre K) ∧ mg "are_limits" = some (.ref a) ∧ PySem.W.keepIn K (.ref a) = true ∧ Binds K d ["thing"] [] := by
  obtain ⟨a1, d1, F1, g1⟩ := h.isn
  obtain ⟨a2, d2, F2, g2⟩ := h.frm
  obtain ⟨a, d, F, g⟩ := h.are
  exact ⟨a, d, ok_are F F2 g2 F1 g1 h.fr h.cs, g, F.kp, F.bindsN fun _ _ _ _ _ _ us hl => match us, hl with | [_], _ => rfl⟩
theorem Hlp.wn (h : Hlp K mg) : ∃ a d, FnOk P w K mg base L2.CX0 3 a d ["thing"] spWind ∧ mg "is_wind" = some (.ref a) ∧ PySem.W.keepIn K (.ref a) = true ∧ Binds K d ["thing"] [] := by
  obtain ⟨a1, d1, F1, g1⟩ := h.isn
  obtain ⟨a2, d2, F2, g2⟩ := h.frm
  obtain ⟨a, d, F, g⟩ := h.wnd
  exact ⟨a, d, ok_iswind F F2 g2 F1 g1 h.fr h.cs, g, F.kp, F.bindsN fun _ _ _ _ _ _ us hl => match us, hl with | [_], _ => rfl⟩
abbrev nInit : List Str := ["self", "limits", "up", "wind", "shares"]
theorem scInit : FnScope nInit nInit (defScope sInit) := ⟨rfl, rfl, rfl, by decide +kernel, rfl, by decide +kernel, by decide +kernel⟩
theorem ok_init {C : Addr} {dvs : List V} (F : FunD K "__init__" "Rules.__init__" (defArgs sInit) (defBody sInit) (defScope sInit) dvs [] f fd) (h : Hlp K mg) (R : RulesT K mg C) : FnOk P w K mg base L2.CX0 4 f fd nInit (spInit C) := by
  obtain ⟨aW, dW, GW, gW, kW, bW⟩ := h.wn (P := P) (w := w) (base := base)
  obtain ⟨aA, dA, GA, gA, kA, bA⟩ := h.ar (P := P) (w := w) (base := base)
  refine F.ok scInit (fun vs H Q E h => ?_) (fun cdv A outer s H vs Q E hr hh => ?_)
  · obtain ⟨p, dx, l, ns, up, wd, sh, rfl, _⟩ := h
    rfl
  · obtain ⟨p, dx, l, ns, up, wd, sh, rfl, hp, hl, ok, hw, q⟩ := hh
    refine ⟨_, PSs.nox (pss_cons (ps_if (pt_cmpR op_isN (pv 1) pe_non (nomark _)) pss_never pss_nil)
      (pss_cons (ps_if (pt_not (pt_val (pe_call GA hr rfl gA kA bA .nil pass0 (pa_cons (pv 1) pa_nil)))) pss_never pss_nil)
      (pss_cons (ps_if (pt_not (pt_val (pe_callB call_isi rfl h.fr.isi boot_isinstance (pa_cons (pv 2) (pa_cons (pe_bltn rfl h.fr.bool_ (by decide +kernel) (v := .ty "bool") rfl) pa_nil))))) pss_never pss_nil)
      (pss_cons (ps_if (pt_not (pt_val (pe_call GW hr rfl gW kW bW .nil pass0 (pa_cons (pv 3) pa_nil)))) pss_never pss_nil)
      (pss_cons (ps_if (pt_not (pt_val (pe_callB call_isi rfl h.fr.isi boot_isinstance (pa_cons (pv 4) (pa_cons (pe_bltn rfl h.fr.bool_ (by decide +kernel) (v := .ty "bool") rfl) pa_nil))))) pss_never pss_nil)
      (pss_cons (ps_fld (pv 0) (pv 1) rfl) (pss_cons (ps_fld (pv 0) (pv 2) rfl) (pss_cons (ps_fld (pv 0) (pv 3) rfl) (pss_one (ps_fld (pv 0) (pv 4) rfl)))))))))), ?_⟩
    refine ⟨_, rfl, rfl, _, rfl, iteF ?_⟩
    refine ⟨_, rfl, l, ns, rfl, hl, ok, fun H1 sm => ⟨_, rfl, iteF ?_⟩⟩
    refine ⟨_, rfl, _, _, _, _, _, rfl, .ty "bool", .base (.bl up), kit_ty (r := true) (by decide +kernel), _, rfl, iteF ?_⟩
    refine ⟨_, rfl, .int wd, rfl, .int wd, _, rfl, ?_⟩
    have e1 : numIn (-99) 99 (.int wd) = true := by
      show (decide (-99 ≤ wd) && decide (wd ≤ 99)) = true
      simp [hw.1, hw.2]
    show if (!numIn (-99) 99 (.int wd)) = true then _ else _
    rw [e1]
    refine iteF ?_
    refine ⟨_, rfl, _, _, _, _, _, rfl, .ty "bool", .base (.bl sh), kit_ty (r := true) (by decide +kernel), _, rfl, iteF ?_⟩
    refine ⟨_, rfl, _, rfl, p, C, dx, _, rfl, sm _ _ hp, R.cl, R.nL, (by show 0 < 1000; decide), ?_⟩
    refine ⟨_, rfl, _, rfl, p, C, dx, _, rfl, upd_same, R.cl, R.nU, Nat.lt_of_le_of_lt (length_putF _ _ _) (by decide), ?_⟩
    refine ⟨_, rfl, _, rfl, p, C, dx, _, rfl, upd_same, R.cl, R.nW, Nat.lt_of_le_of_lt (Nat.le_trans (length_putF _ _ _) (Nat.add_le_add_right (length_putF _ _ _) 1)) (by decide), ?_⟩
    refine ⟨_, rfl, _, rfl, p, C, dx, _, rfl, upd_same, R.cl, R.nS, Nat.lt_of_le_of_lt (Nat.le_trans (length_putF _ _ _) (Nat.add_le_add_right (Nat.le_trans (length_putF _ _ _) (Nat.add_le_add_right (length_putF _ _ _) 1)) 1)) (by decide), ?_⟩
    refine q _ (fun b o e ne => ?_) upd_same
    rw [upd_ne ne, upd_ne ne, upd_ne ne, upd_ne ne]
    exact sm b o e
end
end K3
set_option Elab.async false
set_option linter.all false
set_option maxRecDepth 100000
set_option maxHeartbeats 2000000
namespace K3
open PySem PySem.Spec PyProof.Rows L2 Bb
section
variable {P : Program} {w : World} {K : PySem.W.Frag} {mg : Str → Option Value} {base : Heap} {f : Addr} {fd : FuncData}
theorem scLen : FnScope ["self"] ["self"] (defScope sLen) := ⟨rfl, rfl, rfl, by decide +kernel, rfl, by decide +kernel, by decide +kernel⟩
theorem ok_len {C : Addr} (F : Fn K "__len__" "Rules.__len__" sLen f fd) (T : Free mg) (R : RulesT K mg C) : FnOk P w K mg base L2.CX0 1 f fd ["self"] (spLen C) := by
  refine F.ok scLen (fun vs H Q E h => ?_) (fun cdv A outer s H vs Q E hr hh => ?_)
  · obtain ⟨p, l, ns, up, wd, sh, rfl, _⟩ := h
    rfl
  · obtain ⟨p, l, ns, up, wd, sh, rfl, ⟨⟨dx, hp⟩, hl, ok⟩, q⟩ := hh
    refine ⟨_, PSs.nox (pss_one (ps_ret (pe_callB call_len_seq rfl T.len_ boot_len (pa_cons (pe_op op_catA (pe_fld (pv 0) rfl) (pe_tup (pa_cons pe_str pa_nil))) pa_nil)))), ?_⟩
    have hlen := ok.len
    refine ⟨_, rfl, p, C, dx, _, _, rfl, hp, R.cl, R.nL, f_limits _ _ _ _, (by show 1 ≤ sizeLine; decide), fun t ht => ?_⟩
    have hl' : (upd H t (.tup [.str "above"])) l = some (.tup (ns.map V.int)) := by
      rw [upd_ne (ne_of_none hl ht)]
      exact hl
    have sm : Same H (upd H t (.tup [.str "above"])) := same_upd (Same.refl H) ht
    refine ⟨l, t, _, _, rfl, rfl, SqT.of hl', SqT.of upd_same, ?_, ?_, ?_, ?_⟩
    · have : (ns.map V.int).length + 1 ≤ 1000 := by
        rw [List.length_map]
        omega
      exact Nat.le_of_lt (small1000 this)
    · intro e
      refine ⟨t, _, rfl, .inr (SqT.of upd_same), ?_⟩
      have nil : ns = [] := List.map_eq_nil_iff.mp e
      have z := q _ sm
      rw [nil] at z
      exact z
    · intro _ e
      cases e
    · intro _ _ p' hp'
      refine ⟨p', _, rfl, .inr (SqT.of upd_same), ?_⟩
      have z := q (upd (upd H t (.tup [.str "above"])) p' (.tup (ns.map V.int ++ [.str "above"]))) (same_upd sm (Same.free sm hp'))
      have el : ((ns.map V.int ++ [V.str "above"]).length : Nat) = ns.length + 1 := by simp
      rw [el]
      exact z
abbrev nCls : List Str := ["self", "age", "first", "limit"]
theorem scCls : FnScope nCls ["self", "age"] (defScope sCls) := ⟨rfl, rfl, rfl, by decide +kernel, rfl, by decide +kernel, by decide +kernel⟩
/-- len(self) where self stands in slot 0 -/
theorem rgV_map (a : Nat) (n : Int) : rgV (a : Int) n = ((List.range (n - (a : Int)).toNat).map fun i => (a : Int) + (i : Nat)).map V.int := by
  unfold rgV
  rw [List.map_map]
  rfl
theorem take_snoc {α : Type} {l : List α} {i : Nat} {x : α} (h : l[i]? = some x) : l.take (i + 1) = l.take i ++ [x] := by
  rw [List.take_succ, h]
  rfl
theorem ok_cls {C CA fL : Addr} {fdL : FuncData} (F : Fn K "classes_of" "Rules.classes_of" sCls f fd) (h : Hlp K mg) (R : RulesT K mg C) (FL : Fn K "__len__" "Rules.__len__" sLen fL fdL) (lL : PySem.W.findIn K (.ref C) "__len__" = some (some (.ref fL))) (iL : PySem.W.isFn K (.ref fL) = true)
    (ea : ErrT K mg "NoAge" CA) : FnOk P w K mg base (L2.CX P w) 4 f fd ["self", "age"] (spCls C CA) := by
  obtain ⟨aF, dF, GF, gF, kF, bF⟩ := h.from (P := P) (w := w) (base := base)
  have GL : FnOk P w K mg base L2.CX0 1 fL fdL ["self"] (spLen C) := ok_len FL h.fr R
  have bL : Binds K fdL ["self"] [] := FL.bindsN fun _ _ _ _ _ _ us hl => match us, hl with | [_], _ => rfl
  refine F.ok (CX := L2.CX P w) scCls (fun vs H Q E h => ?_) (fun cdv A outer s H vs Q E hr hh => ?_)
  · obtain ⟨p, l, x, ns, up, wd, sh, rfl, _⟩ := h
    rfl
  · obtain ⟨p, l, x, ns, up, wd, sh, rfl, at_, hx, q, qe⟩ := hh
    refine ⟨_, pss_cons (ps_if (pt_not (pt_val (pe_call GF (hr.mono (by decide)) rfl gF kF bF .nil pass0 (pa_cons (pv 1) (pa_cons pe_int (pa_cons (pe_k h.cs.age rfl) pa_nil))))))
          (pss_one (ps_raise rfl (takes_of rfl rfl rfl rfl) (pmk_own PySem.F.excBase_ValueError ea.ex ea.g ea.kp (raises_own ea.sb ea.ty) rfl))) pss_nil)
      (pss_cons (ps_set (i := 2) scCls.nd rfl (.inl rfl) (pe_callB call_len_seq rfl h.fr.len_ boot_len (pa_cons (pe_lc (own := [("limit", 3)]) (g := gName 3) (tt := tTest (tOp (rI0 fun i j => .bl (decide (i ≤ j))) (tVar 3) (tVar 1))) rfl scCls.nd (pi_tup (pe_fld (pv 0) rfl)) (blkOk_by (N := nCls) (sc := defScope sCls) (by decide +kernel))
          (fun _ _ _ _ _ => pg_name (i := 3) scCls.nd rfl (Or.inl rfl)) (fun _ _ _ _ _ => pts_one (pt_cmpR op_le (pv 3) (pv 1) (nomark _))) (fun _ _ _ _ _ => pv 3)) pa_nil)))
      (pss_cons (ps_if (pt_val (pe_fld (pv 0) rfl)) (pss_one (ps_ret (pe_listRg rfl rfl h.fr.list_ (prg_2 rfl h.fr.rng_ (pv 2) (pe_callB (call_lenOwn GL (hr.mono (by decide)) lL iL bL pass0) rfl h.fr.len_ boot_len (pa_cons (pv 0) pa_nil)))))) pss_nil)
      (pss_one (ps_ret (pe_lst (pa_cons (pv 2) pa_nil)))))), ?_⟩
    obtain ⟨⟨dx, hp⟩, hl, ok⟩ := id at_
    have hlen := ok.len
    refine ⟨_, rfl, x, 0, 300, rfl, hx, _, rfl, ?_⟩
    by_cases hin : numIn 0 300 x = true
    · rw [hin]
      refine iteF ?_
      obtain ⟨age, rfl, a1, a2⟩ : ∃ age, x = .int age ∧ 0 ≤ age ∧ age ≤ 300 := by
        cases x with
        | int i =>
          have z : (decide (0 ≤ i) && decide (i ≤ 300)) = true := hin
          simp only [Bool.and_eq_true, decide_eq_true_eq] at z
          exact ⟨i, rfl, z.1, z.2⟩
        | _ => cases hin
      -- first
      refine ⟨_, rfl, p, C, dx, _, _, rfl, hp, R.cl, R.nL, f_limits _ _ _ _, l, rfl, ⟨_, SqT.of hl⟩, fun D hD => lc_tup (K := K) (a := l) (xs := ns.map V.int)
        (fun i H' => Same H H' ∧ H' D = some (.lst (((ns.take i).filter fun n => decide (n ≤ age)).map V.int))) ⟨same_upd (Same.refl H) hD, upd_same⟩ (fun i H' _ p => sqt_same (SqT.of hl) p.1) ?_ ?_⟩
      · rintro i y H' hy ⟨sm, acc⟩
        obtain ⟨n, hn, rfl⟩ := get_map hy
        have li := (List.getElem?_eq_some_iff.mp hn).1
        refine ⟨rfl, _, rfl, _, rfl, _, _, rfl, rfl, _, rfl, ?_⟩
        have e0 := take_snoc hn
        refine ite2 (fun c => ?_) (fun c => ?_)
        · refine ⟨_, rfl, _, acc, ?_, same_upd sm hD, ?_⟩
          · refine small1000 ?_
            rw [List.length_map]
            have := List.length_filter_le (fun n => decide (n ≤ age)) (ns.take i)
            rw [List.length_take] at this
            omega
          · have c' : (fun n => decide (n ≤ age)) n = true := c
            rw [upd_same, e0, List.filter_append, List.filter_cons, if_pos c', List.filter_nil, List.map_append]
            rfl
        · have c' : ¬ (fun n => decide (n ≤ age)) n = true := c
          refine ⟨sm, ?_⟩
          rw [e0, List.filter_append, List.filter_cons, if_neg c', List.filter_nil, List.append_nil]
          exact acc
      · rintro H1 ⟨sm, acc⟩
        rw [List.length_map, List.take_length] at acc
        refine ⟨D, _, rfl, .inl (SqL.of acc), ?_⟩
        have ef : ((((ns.filter fun n => decide (n ≤ age)).map V.int).length : Nat) : Int) = (fst ns age : Nat) := by
          rw [List.length_map]
          rfl
        rw [ef]
        -- self.up
        refine ⟨_, rfl, p, C, dx, _, _, rfl, sm _ _ hp, R.cl, R.nU, f_up _ _ _ _, _, rfl, ?_⟩
        have flt := fst_le ns age
        cases up with
        | true =>
          refine iteT ?_
          refine ⟨_, rfl, _, rfl, p, dx, _, rfl, sm _ _ hp, ?_⟩
          refine ⟨p, l, ns, true, wd, sh, rfl, at_.same sm, fun H2 sm2 => ⟨_, rfl, ⟨by omega, by omega⟩, ?_⟩⟩
          refine ⟨_, _, rfl, rfl, RgOk.of_le (by omega) (by omega) (by omega) (by omega), fun r hr' => ?_⟩
          refine q age rfl a1 a2 _ r (same_upd (sm.trans sm2) (Same.free (sm.trans sm2) hr')) (Same.free (sm.trans sm2) hr') ?_
          rw [upd_same, rgV_map]
          unfold clsP
          rw [if_pos rfl]
          have ec : (((ns.length + 1 : Nat)) : Int) = (ns.length : Int) + 1 := by omega
          rw [ec]
        | false =>
          refine iteF ?_
          refine ⟨_, rfl, (by show 1 ≤ sizeLine; decide), fun r hr' => ?_⟩
          refine q age rfl a1 a2 _ r (same_upd sm (Same.free sm hr')) (Same.free sm hr') ?_
          rw [upd_same]
          unfold clsP
          rw [if_neg Bool.false_ne_true]
          rfl
    · have e := Bool.eq_false_iff.mpr hin
      rw [e]
      refine iteT ?_
      exact qe e
end
end K3
set_option Elab.async false
set_option linter.all false
set_option maxRecDepth 100000
set_option maxHeartbeats 2000000
namespace K3
open PySem PySem.Spec PyProof.Rows L2 Bb
section
variable {P : Program} {w : World} {K : PySem.W.Frag} {mg : Str → Option Value} {base : Heap} {f : Addr} {fd : FuncData}
theorem scEq : FnScope ["self", "other"] ["self", "other"] (defScope sEq) := ⟨rfl, rfl, rfl, by decide +kernel, rfl, by decide +kernel, by decide +kernel⟩
theorem ok_eq {C : Addr} (F : Fn K "__eq__" "Rules.__eq__" sEq f fd) (T : Free mg) (R : RulesT K mg C) : FnOk P w K mg base L2.CX0 1 f fd ["self", "other"] (spEq C) := by
  refine F.ok scEq (fun vs H Q E h => ?_) (fun cdv A outer s H vs Q E hr hh => ?_)
  · obtain ⟨p, q, l, m, ns, ms, up, up', wd, wd', sh, sh', rfl, _⟩ := h
    rfl
  · obtain ⟨p, q, l, m, ns, ms, up, up', wd, wd', sh, sh', rfl, ⟨⟨dx, hp⟩, hl, _⟩, ⟨⟨dy, hq⟩, hm, _⟩, yes, no⟩ := hh
    refine ⟨_, PSs.nox (pss_one (ps_ret (pe_and (pe_callB call_isi rfl T.isi boot_isinstance (pa_cons (pv 1) (pa_cons (pe_glob rfl R.gC (v := .ref C) rfl) pa_nil)))
      (pe_and (pe_cmpR (op_eqD hr.units) (pe_fld (pv 0) rfl) (pe_fld (pv 1) rfl) (nomark _))
      (pe_and (pe_cmpR op_eq (pe_fld (pv 0) rfl) (pe_fld (pv 1) rfl) (nomark _))
      (pe_and (pe_cmpR op_eq (pe_fld (pv 0) rfl) (pe_fld (pv 1) rfl) (nomark _))
      (pe_one (pe_cmpR op_eq (pe_fld (pv 0) rfl) (pe_fld (pv 1) rfl) (nomark _))))))))), ?_⟩
    refine ⟨_, rfl, _, _, _, _, _, rfl, .own C, .base (.ins hq R.cl R.ha R.hn R.ht R.hm), R.kit, _, rfl, iteT ?_⟩
    refine ⟨_, rfl, p, C, dx, _, _, rfl, hp, R.cl, R.nL, f_limits _ _ _ _, _, rfl, q, C, dy, _, _, rfl, hq, R.cl, R.nL, f_limits _ _ _ _, ?_⟩
    refine ⟨.tuple (ns.map PyData.int), .tuple (ms.map PyData.int), .tup (SqT.of hl) (dp_ints ns), .tup (SqT.of hm) (dp_ints ms), shaped_tup ns, shaped_tup ms, _, rfl, ?_⟩
    have e1 : PyData.eqv (.tuple (ns.map PyData.int)) (.tuple (ms.map PyData.int)) = decide (ns = ms) := by
      rw [← eqv_ints]
      simp only [PyData.eqv]
    rw [e1]
    refine ite2 (fun c1 => ?_) (fun c1 => ?_)
    · refine ⟨_, rfl, p, C, dx, _, _, rfl, hp, R.cl, R.nU, f_up _ _ _ _, _, rfl, q, C, dy, _, _, rfl, hq, R.cl, R.nU, f_up _ _ _ _, rfl, _, rfl, ?_⟩
      refine ite2 (fun c2 => ?_) (fun c2 => ?_)
      · refine ⟨_, rfl, p, C, dx, _, _, rfl, hp, R.cl, R.nW, f_wind _ _ _ _, _, rfl, q, C, dy, _, _, rfl, hq, R.cl, R.nW, f_wind _ _ _ _, rfl, _, rfl, ?_⟩
        refine ite2 (fun c3 => ?_) (fun c3 => ?_)
        · refine ⟨_, rfl, p, C, dx, _, _, rfl, hp, R.cl, R.nS, f_shares _ _ _ _, _, rfl, q, C, dy, _, _, rfl, hq, R.cl, R.nS, f_shares _ _ _ _, rfl, ?_⟩
          have d1 := of_decide_eq_true c1
          have d2 : up = up' := V.bl.inj (of_decide_eq_true c2)
          have d3 : wd = wd' := V.int.inj (of_decide_eq_true c3)
          by_cases d4 : sh = sh'
          · rw [decide_eq_true (show V.bl sh = V.bl sh' from congrArg V.bl d4)]
            exact yes d1 d2 d3 d4
          · rw [decide_eq_false (show ¬ V.bl sh = V.bl sh' from fun z => d4 (V.bl.inj z))]
            exact no fun z => d4 z.2.2.2
        · exact no fun z => c3 (decide_eq_true (congrArg V.int z.2.2.1))
      · exact no fun z => c2 (decide_eq_true (congrArg V.bl z.2.1))
    · exact no fun z => c1 (decide_eq_true z.1)
end
end K3
set_option Elab.async false
set_option linter.all false
set_option maxRecDepth 100000
set_option maxHeartbeats 2000000
namespace K3
open PySem PySem.Spec PyProof.Rows L2 Bb
/-! the law's pen: a list of two ints; all else stays -/
def Pen (H : Hp) (p : Addr) : Prop := ∃ x f : Int, H p = some (.lst [.int x, .int f])
structure Kp (p : Addr) (H H' : Hp) : Prop where
  keep : ∀ b o, H b = some o → b ≠ p → H' b = some o
  pen : Pen H' p
theorem Kp.refl {p : Addr} {H : Hp} (h : Pen H p) : Kp p H H := ⟨fun _ _ e _ => e, h⟩
theorem Kp.trans {p : Addr} {H H1 H2 : Hp} (a : Kp p H H1) (b : Kp p H1 H2) : Kp p H H2 := ⟨fun c o e n => b.keep c o (a.keep c o e n) n, b.pen⟩
theorem Kp.same {p : Addr} {H H1 H2 : Hp} (a : Kp p H H1) (s : Same H1 H2) : Kp p H H2 := ⟨fun c o e n => s c o (a.keep c o e n), let ⟨x, f, e⟩ := a.pen; ⟨x, f, s _ _ e⟩⟩
theorem Kp.free {p q : Addr} {H H' : Hp} (a : Kp p H H') (hp : Pen H p) (h : H' q = none) : H q = none := by
  cases e : H q with
  | none => rfl
  | some o =>
    by_cases z : q = p
    · obtain ⟨x, f, e2⟩ := a.pen
      rw [z, e2] at h
      cases h
    · rw [a.keep _ _ e z] at h
      cases h
theorem pen_ne {H : Hp} {p a : Addr} {o : HO} (hp : Pen H p) (h : H a = some o) (n : ∀ x f : Int, o ≠ .lst [.int x, .int f]) : a ≠ p := by
  rintro rfl
  obtain ⟨x, f, e⟩ := hp
  rw [h] at e
  exact n x f (Option.some.inj e)
def spCell (K : PySem.W.Frag) : Sp := fun vs H Q _ => ∃ (a : Addr) (ns : List Int), vs = [.ref a, .int 0] ∧ SqL K H a (ns.map V.int) ∧ ns.length ≤ 63 ∧ ∀ z, Q (.int z) H
def spPen : Sp := fun vs H Q _ => ∃ z : Int, vs = [.int z] ∧ ∀ p H', H p = none → Same H H' → Pen H' p → Q (.ref p) H'
def spDraw : Sp := fun vs H Q _ => ∃ (p : Addr) (m : Int), vs = [.ref p, .int m] ∧ Pen H p ∧ (0 < m ∧ m < 1073741824) ∧ ∀ r H', 0 ≤ r → r < m → Kp p H H' → Q (.int r) H'
def spPick (K : PySem.W.Frag) : Sp := fun vs H Q _ => ∃ (p a : Addr) (xs : List V), vs = [.ref p, .ref a] ∧ Pen H p ∧ H a = some (.lst xs) ∧ a ≠ p ∧ (0 < xs.length ∧ xs.length ≤ 1000) ∧ ∀ v H', v ∈ xs → Kp p H H' → Q v H'
section
variable {P : Program} {w : World} {K : PySem.W.Frag} {mg : Str → Option Value} {base : Heap} {f : Addr} {fd : FuncData}
theorem scCell : FnScope ["_law_script", "_law_k"] ["_law_script", "_law_k"] (defScope sCell) := ⟨rfl, rfl, rfl, by decide +kernel, rfl, by decide +kernel, by decide +kernel⟩
theorem ok_cell (F : Fn K "_law_cell" "_law_cell" sCell f fd) (T : Free mg) : FnOk P w K mg base L2.CX0 1 f fd ["_law_script", "_law_k"] (spCell K) := by
  refine F.ok scCell (fun vs H Q E h => ?_) (fun cdv A outer s H vs Q E hr hh => ?_)
  · obtain ⟨a, ns, rfl, _⟩ := h
    rfl
  · obtain ⟨a, ns, rfl, ha, hn, q⟩ := hh
    refine ⟨_, PSs.nox (pss_cons (ps_if (pt_cmpR op_lt (pv 1) (pe_callB call_len_seq rfl T.len_ boot_len (pa_cons (pv 0) pa_nil)) (nomark _)) (pss_one (ps_ret (pe_ix ix_list (pv 0) (pv 1) (fun _ _ => rfl)))) pss_nil) (pss_one (ps_ret pe_int))), ?_⟩
    refine ⟨_, rfl, _, rfl, a, _, rfl, .inl ha, _, _, rfl, rfl, _, rfl, ?_⟩
    refine ite2 (fun c => ?_) (fun c => ?_)
    · have c' : (0 : Int) < (((ns.map V.int).length : Nat) : Int) := of_decide_eq_true c
      rw [List.length_map] at c'
      have h0 : (ns.map V.int)[0]? = some (V.int (ns[0]'(by omega))) := by
        rw [List.getElem?_map, List.getElem?_eq_getElem (by omega)]
        rfl
      exact ⟨_, rfl, _, rfl, a, _, 0, _, rfl, rfl, ha, at_of (j := 0) rfl h0, q _⟩
    · exact q 0
theorem scPen : FnScope ["_law_cell_here"] ["_law_cell_here"] (defScope sPen) := ⟨rfl, rfl, rfl, by decide +kernel, rfl, by decide +kernel, by decide +kernel⟩
theorem ok_pen (F : Fn K "_law_pen" "_law_pen" sPen f fd) (T : Free mg) : FnOk P w K mg base L2.CX0 1 f fd ["_law_cell_here"] spPen := by
  refine F.ok scPen (fun vs H Q E h => ?_) (fun cdv A outer s H vs Q E hr hh => ?_)
  · obtain ⟨z, rfl, _⟩ := h
    rfl
  · obtain ⟨z, rfl, q⟩ := hh
    refine ⟨_, PSs.nox (pss_one (ps_ret (pe_lst (pa_cons (pv 0) (pa_cons (pe_callTy call_int1 rfl T.int_ (by decide +kernel) (pa_cons (pe_cmpR op_ge (pv 0) (pe_op op_pow pe_int pe_int) (nomark _)) pa_nil)) pa_nil))))), ?_⟩
    refine ⟨_, rfl, _, rfl, _, _, rfl, rfl, ⟨by decide, by decide, by decide⟩, _, _, rfl, rfl, .inr ⟨_, rfl, ?_⟩⟩
    refine ⟨(by show 2 ≤ sizeLine; decide), fun p hp => ?_⟩
    exact q p _ hp (same_upd (Same.refl H) hp) ⟨_, _, upd_same⟩
theorem scDraw : FnScope ["_law_pen_here", "_law_many", "_law_drawn"] ["_law_pen_here", "_law_many"] (defScope sDraw) := ⟨rfl, rfl, rfl, by decide +kernel, rfl, by decide +kernel, by decide +kernel⟩
theorem ok_draw (F : Fn K "_law_draw" "_law_draw" sDraw f fd) : FnOk P w K mg base L2.CX0 1 f fd ["_law_pen_here", "_law_many"] spDraw := by
  refine F.ok scDraw (fun vs H Q E h => ?_) (fun cdv A outer s H vs Q E hr hh => ?_)
  · obtain ⟨p, m, rfl, _⟩ := h
    rfl
  · obtain ⟨p, m, rfl, ⟨x, g, hp⟩, ⟨m0, m1⟩, q⟩ := hh
    refine ⟨_, PSs.nox (pss_cons (ps_if (pt_cmpR op_eq (pe_ix ix_list (pv 0) pe_int (fun _ _ => rfl)) pe_int (nomark _))
        (pss_cons (ps_set (i := 2) scDraw.nd rfl (.inl rfl) (pe_op op_mod (pe_ix ix_list (pv 0) pe_int (fun _ _ => rfl)) (pv 1)))
        (pss_cons (ps_asg (pe_op op_fdiv (pe_ix ix_list (pv 0) pe_int (fun _ _ => rfl)) (pv 1)) (pg_sub (pv 0) pe_int set_list))
        (pss_one (ps_ret (pv 2))))) pss_nil)
      (pss_cons (ps_asg (pe_op op_mod (pe_op op_add (pe_op op_mul (pe_op op_mod (pe_ix ix_list (pv 0) pe_int (fun _ _ => rfl)) pe_int) pe_int) pe_int) pe_int) (pg_sub (pv 0) pe_int set_list))
      (pss_one (ps_ret (pe_op op_mod (pe_op op_fdiv (pe_op op_mod (pe_op op_add (pe_op op_mul (pe_ix ix_list (pv 0) pe_int (fun _ _ => rfl)) (pe_ix ix_list (pv 0) pe_int (fun _ _ => rfl)))
        (pe_op op_mul pe_int (pe_ix ix_list (pv 0) pe_int (fun _ _ => rfl)))) pe_int) pe_int) (pv 1)))))), ?_⟩
    have i0 : ∀ {a b : V}, atI [a, b] (0 : Int) = some a := fun {a b} => at_of (j := 0) rfl rfl
    have i1 : ∀ {a b : V}, atI [a, b] (1 : Int) = some b := fun {a b} => at_of (j := 1) rfl rfl
    refine ⟨_, rfl, p, _, 1, _, rfl, rfl, SqL.of hp, i1, rfl, _, rfl, ?_⟩
    refine ite2 (fun c => ?_) (fun c => ?_)
    · refine ⟨_, rfl, p, _, 0, _, rfl, rfl, SqL.of hp, i0, _, rfl, x, m, rfl, rfl, m0, ?_⟩
      refine ⟨_, rfl, p, _, 0, _, rfl, rfl, SqL.of hp, i0, _, rfl, x, m, rfl, rfl, ⟨m0, m1⟩, ?_⟩
      refine ⟨_, rfl, p, _, 0, 0, rfl, rfl, hp, rfl, _, rfl, ?_⟩
      refine q _ _ (Int.emod_nonneg _ (by omega)) (Int.emod_lt_of_pos _ m0) ⟨fun b o e n => ?_, ?_⟩
      · rw [upd_ne n]
        exact e
      · exact ⟨x / m, g, upd_same⟩
    · refine ⟨_, rfl, p, _, 0, _, rfl, rfl, SqL.of hp, i0, x, 2147483629, rfl, rfl, (by show (0 : Int) < 2147483629; decide), ?_⟩
      have b1 := Int.emod_nonneg x (show (2147483629 : Int) ≠ 0 by decide)
      have b2 := Int.emod_lt_of_pos x (show (0 : Int) < 2147483629 by decide)
      refine ⟨_, _, rfl, rfl, .inl ⟨by omega, by omega⟩, _, _, rfl, rfl, _, _, rfl, rfl, (by show (0 : Int) < 2147483629; decide), ?_⟩
      have c1 := Int.emod_nonneg (x % 2147483629 * 48271 + 11) (show (2147483629 : Int) ≠ 0 by decide)
      have c2 := Int.emod_lt_of_pos (x % 2147483629 * 48271 + 11) (show (0 : Int) < 2147483629 by decide)
      obtain ⟨z, hz⟩ : ∃ z, z = (x % 2147483629 * 48271 + 11) % 2147483629 := ⟨_, rfl⟩
      rw [← hz] at c1 c2
      refine ⟨_, rfl, p, _, 0, 0, rfl, rfl, hp, rfl, ?_⟩
      have hp2 : (upd H p (.lst ([V.int x, V.int g].set 0 (.int ((x % 2147483629 * 48271 + 11) % 2147483629))))) p = some (.lst [.int z, .int g]) := by
        rw [hz]
        exact upd_same
      refine ⟨_, rfl, p, _, 0, _, rfl, rfl, SqL.of hp2, i0, _, rfl, p, _, 0, _, rfl, rfl, SqL.of hp2, i0, z, z, rfl, rfl, .inl ⟨by omega, by omega⟩, ?_⟩
      refine ⟨_, rfl, p, _, 0, _, rfl, rfl, SqL.of hp2, i0, 40692, z, rfl, rfl, .inl ⟨by decide, by decide⟩, ?_⟩
      refine ⟨_, _, rfl, rfl, _, _, rfl, rfl, (by show (0 : Int) < 2147483647; decide), _, _, rfl, rfl, ⟨by decide, by decide⟩, _, rfl, _, _, rfl, rfl, m0, ?_⟩
      refine q _ _ (Int.emod_nonneg _ (by omega)) (Int.emod_lt_of_pos _ m0) ⟨fun b o e n => ?_, ?_⟩
      · rw [upd_ne n]
        exact e
      · exact ⟨z, g, hp2⟩
theorem scPick : FnScope ["_law_pen_here", "_law_things"] ["_law_pen_here", "_law_things"] (defScope sPick) := ⟨rfl, rfl, rfl, by decide +kernel, rfl, by decide +kernel, by decide +kernel⟩
theorem ok_pick {fD : Addr} {fdD : FuncData} (F : Fn K "_law_pick" "_law_pick" sPick f fd) (FD : Fn K "_law_draw" "_law_draw" sDraw fD fdD) (gD : mg "_law_draw" = some (.ref fD)) (T : Free mg) : FnOk P w K mg base L2.CX0 2 f fd ["_law_pen_here", "_law_things"] (spPick K) := by
  have GD : FnOk P w K mg base L2.CX0 1 fD fdD ["_law_pen_here", "_law_many"] spDraw := ok_draw FD
  have bD : Binds K fdD ["_law_pen_here", "_law_many"] [] := FD.bindsN fun _ _ _ _ _ _ us hl => match us, hl with | [_, _], _ => rfl
  refine F.ok scPick (fun vs H Q E h => ?_) (fun cdv A outer s H vs Q E hr hh => ?_)
  · obtain ⟨p, a, xs, rfl, _⟩ := h
    rfl
  · obtain ⟨p, a, xs, rfl, hp, ha, ne, hl, q⟩ := hh
    refine ⟨_, PSs.nox (pss_one (ps_ret (pe_ix ix_list (pv 1) (pe_call GD hr rfl gD FD.kp bD .nil pass0 (pa_cons (pv 0) (pa_cons (pe_callB call_len_seq rfl T.len_ boot_len (pa_cons (pv 1) pa_nil)) pa_nil))) (fun _ _ => rfl)))), ?_⟩
    refine ⟨_, rfl, _, rfl, _, rfl, a, xs, rfl, .inl (SqL.of ha), p, _, rfl, hp, ⟨by omega, by omega⟩, fun r H' r0 r1 kp => ?_⟩
    have hlt : r.toNat < xs.length := by omega
    refine ⟨a, xs, r, xs[r.toNat], rfl, rfl, SqL.of (kp.keep _ _ ha ne), ?_, q _ _ (List.getElem_mem _) kp⟩
    exact at_of (j := r.toNat) (by omega) (List.getElem?_eq_getElem hlt)
end
end K3
set_option Elab.async false
set_option linter.all false
set_option maxRecDepth 100000
set_option maxHeartbeats 2000000
namespace K3
open PySem PySem.Spec PyProof.Rows L2 Bb
theorem Th.kp {H H' : Hp} {p : Addr} {x : V} (h : Th H x) (k : Kp p H H') : Th H' x := by
  have one : ∀ {a : Addr} {o : HO}, H a = some o → Th H (.ref a) → (∀ H2 : Hp, H2 a = some o → Th H2 (.ref a)) → Th H' (.ref a) := by
    intro a o e _ back
    by_cases z : a = p
    · obtain ⟨x, f, e2⟩ := k.pen
      rw [z]
      exact .lst e2
    · exact back H' (k.keep _ _ e z)
  cases h with
  | non => exact .non
  | bl b => exact .bl b
  | int i => exact .int i
  | str z => exact .str z
  | lst e => exact one e (.lst e) fun _ e2 => .lst e2
  | tup e => exact one e (.tup e) fun _ e2 => .tup e2
  | dic e => exact one e (.dic e) fun _ e2 => .dic e2
theorem Th.same {H H' : Hp} {x : V} (h : Th H x) (s : Same H H') : Th H' x := by
  cases h with
  | non => exact .non
  | bl b => exact .bl b
  | int i => exact .int i
  | str z => exact .str z
  | lst e => exact .lst (s _ _ e)
  | tup e => exact .tup (s _ _ e)
  | dic e => exact .dic (s _ _ e)
theorem pen_same {H H' : Hp} {p : Addr} (h : Pen H p) (s : Same H H') : Pen H' p := by
  obtain ⟨x, f, e⟩ := h
  exact ⟨x, f, s _ _ e⟩
theorem up1 {H H1 : Hp} {q : Addr} {o : HO} (s : Same H H1) (h : H1 q = none) : Same H (upd H1 q o) := same_upd s (Same.free s h)
theorem up2 {H1 : Hp} {q : Addr} {o : HO} (h : H1 q = none) : Same H1 (upd H1 q o) := same_upd (Same.refl _) h
def spThing : Sp := fun vs H Q _ => ∃ p, vs = [.ref p] ∧ Pen H p ∧ ∀ v H', Kp p H H' → Th H' v → Q v H'
def spOdd : Sp := fun vs H Q _ => ∃ (p : Addr) (lo hi : Int), vs = [.ref p, .int lo, .int hi] ∧ Pen H p ∧ ∀ v H', Kp p H H' → Th H' v → Q v H'
section
variable {P : Program} {w : World} {K : PySem.W.Frag} {mg : Str → Option Value} {base : Heap} {f : Addr} {fd : FuncData}
/-- the law's first helpers as they stand -/
structure Hl (K : PySem.W.Frag) (mg : Str → Option Value) : Prop where
  draw : ∃ a d, Fn K "_law_draw" "_law_draw" sDraw a d ∧ mg "_law_draw" = some (.ref a)
  pick : ∃ a d, Fn K "_law_pick" "_law_pick" sPick a d ∧ mg "_law_pick" = some (.ref a)
  fr : Free mg
theorem Hl.dr (h : Hl K mg) : ∃ a d, FnOk P w K mg base L2.CX0 1 a d ["_law_pen_here", "_law_many"] spDraw ∧ mg "_law_draw" = some (.ref a) ∧ PySem.W.keepIn K (.ref a) = true ∧ Binds K d ["_law_pen_here", "_law_many"] [] := by
  obtain ⟨a, d, F, g⟩ := h.draw
  exact ⟨a, d, ok_draw F, g, F.kp, F.bindsN fun _ _ _ _ _ _ us hl => match us, hl with | [_, _], _ => rfl⟩
theorem Hl.pk (h : Hl K mg) : ∃ a d, FnOk P w K mg base L2.CX0 2 a d ["_law_pen_here", "_law_things"] (spPick K) ∧ mg "_law_pick" = some (.ref a) ∧ PySem.W.keepIn K (.ref a) = true ∧ Binds K d ["_law_pen_here", "_law_things"] [] := by
  obtain ⟨a1, d1, F1, g1⟩ := h.draw
  obtain ⟨a, d, F, g⟩ := h.pick
  exact ⟨a, d, ok_pick F F1 g1 h.fr, g, F.kp, F.bindsN fun _ _ _ _ _ _ us hl => match us, hl with | [_, _], _ => rfl⟩
theorem scAny : FnScope ["_law_pen_here", "_law_odd_here"] ["_law_pen_here"] (defScope sAny) := ⟨rfl, rfl, rfl, by decide +kernel, rfl, by decide +kernel, by decide +kernel⟩
theorem ok_any (F : Fn K "_law_anything" "_law_anything" sAny f fd) (h : Hl K mg) : FnOk P w K mg base L2.CX0 3 f fd ["_law_pen_here"] spThing := by
  obtain ⟨aP, dP, GP, gP, kP, bP⟩ := h.pk (P := P) (w := w) (base := base)
  refine F.ok scAny (fun vs H Q E h => ?_) (fun cdv A outer s H vs Q E hr hh => ?_)
  · obtain ⟨p, rfl, _⟩ := h
    rfl
  · obtain ⟨p, rfl, hp, q⟩ := hh
    refine ⟨_, PSs.nox (pss_cons (ps_set (i := 1) scAny.nd rfl (.inl rfl) (pe_lst (pa_cons pe_non (pa_cons pe_bl (pa_cons pe_bl (pa_cons pe_str (pa_cons pe_str (pa_cons pe_str (pa_cons (pe_tup pa_nil) (pa_cons (pe_lst pa_nil) (pa_cons pe_dnewK
        (pa_cons (pe_un un_neg pe_int) (pa_cons (pe_op op_pow pe_int pe_int) (pa_cons pe_int (pa_cons pe_int (pa_cons (pe_tup (pa_cons pe_int pa_nil)) (pa_cons (pe_lst (pa_cons pe_int pa_nil)) (pa_cons (pe_tup (pa_cons (pe_tup pa_nil) pa_nil))
        (pa_cons (pe_tup (pa_cons pe_int (pa_cons pe_int pa_nil))) (pa_cons (pe_disp (pps_cons pe_int pe_int pps_nil) (by rfl) (by rfl) (fun z => by cases z) (by decide)) pa_nil))))))))))))))))))))
      (pss_one (ps_ret (pe_call GP hr rfl gP kP bP .nil pass0 (pa_cons (pv 0) (pa_cons (pv 1) pa_nil)))))), ?_⟩
    have zs : 0 ≤ sizeLine := Nat.zero_le _
    have os : 1 ≤ sizeLine := by decide
    have ts : 2 ≤ sizeLine := by decide
    refine ⟨zs, fun t1 h1 => ⟨zs, fun l1 h2 => fun d1 h3 => ⟨_, rfl, _, _, rfl, rfl, ⟨by decide, by decide, by decide⟩, os, fun t2 h4 => ⟨os, fun l2 h5 => ⟨zs, fun t3 h6 => ⟨os, fun t4 h7 => ⟨ts, fun t5 h8 => fun d2 h9 => ⟨upd_same, [(Sum.inl 0, .int 0)], rfl, (by decide), ?_⟩⟩⟩⟩⟩⟩⟩⟩
    refine ⟨(by show 18 ≤ sizeLine; decide), fun L hL => ?_⟩
    have c1 := up2 (o := .tup []) h1
    have c2 := up2 (o := .lst []) h2
    have c3 := up2 (o := .dK []) h3
    have c4 := up2 (o := .tup [V.int 0]) h4
    have c5 := up2 (o := .lst [V.int 0]) h5
    have c6 := up2 (o := .tup []) h6
    have c7 := up2 (o := .tup [V.ref t3]) h7
    have c8 := up2 (o := .tup [V.int 1, V.int 2]) h8
    have c10 := same_upd (o := .dK (mergeK [] [(Sum.inl 0, V.int 0)])) (up2 (o := .dK []) h9) h9
    have r8 := c10.trans (up2 (o := .lst [.non, .bl true, .bl false, .str "", .str "ann", .str "less", .ref t1, .ref l1, .ref d1, .int (-1), .int (10 ^ 39), .int 0, .int 7, .ref t2, .ref l2, .ref t4, .ref t5, .ref d2]) hL)
    have r7 := c8.trans r8
    have r6 := c7.trans r7
    have r5 := c6.trans r6
    have r4 := c5.trans r5
    have r3 := c4.trans r4
    have r2 := c3.trans r3
    have r1 := c2.trans r2
    have r0 := c1.trans r1
    have hp' := pen_same hp r0
    refine ⟨_, rfl, _, rfl, p, L, _, rfl, hp', upd_same, ?_, ⟨(by show 0 < 18; decide), (by show 18 ≤ 1000; decide)⟩, fun v H' hv kp => ?_⟩
    · exact pen_ne hp' upd_same (fun x f z => by injection z with z; injection z with z _; cases z)
    · refine q v H' (((Kp.refl hp).same r0).trans kp) (Th.kp ?_ kp)
      simp only [List.mem_cons, List.not_mem_nil, or_false] at hv
      rcases hv with rfl | rfl | rfl | rfl | rfl | rfl | rfl | rfl | rfl | rfl | rfl | rfl | rfl | rfl | rfl | rfl | rfl | rfl
      · exact .non
      · exact .bl _
      · exact .bl _
      · exact .str _
      · exact .str _
      · exact .str _
      · exact .tup (r1 _ _ upd_same)
      · exact .lst (r2 _ _ upd_same)
      · exact .dic (r3 _ _ upd_same)
      · exact .int _
      · exact .int _
      · exact .int _
      · exact .int _
      · exact .tup (r4 _ _ upd_same)
      · exact .lst (r5 _ _ upd_same)
      · exact .tup (r7 _ _ upd_same)
      · exact .tup (r8 _ _ upd_same)
      · exact .dic ((up2 (o := .lst _) hL) _ _ upd_same)
end
end K3
set_option Elab.async false
set_option linter.all false
set_option maxRecDepth 100000
set_option maxHeartbeats 2000000
namespace K3
open PySem PySem.Spec PyProof.Rows L2 Bb
section
variable {P : Program} {w : World} {K : PySem.W.Frag} {mg : Str → Option Value} {base : Heap} {f : Addr} {fd : FuncData}
theorem scOdd : FnScope ["_law_pen_here", "_law_least", "_law_greatest", "_law_far"] ["_law_pen_here", "_law_least", "_law_greatest"] (defScope sOdd) := ⟨rfl, rfl, rfl, by decide +kernel, rfl, by decide +kernel, by decide +kernel⟩
theorem ok_odd (F : Fn K "_law_odd" "_law_odd" sOdd f fd) (h : Hl K mg) : FnOk P w K mg base L2.CX0 3 f fd ["_law_pen_here", "_law_least", "_law_greatest"] spOdd := by
  obtain ⟨aP, dP, GP, gP, kP, bP⟩ := h.pk (P := P) (w := w) (base := base)
  refine F.ok scOdd (fun vs H Q E h => ?_) (fun cdv A outer s H vs Q E hr hh => ?_)
  · obtain ⟨p, lo, hi, rfl, _⟩ := h
    rfl
  · obtain ⟨p, lo, hi, rfl, hp, q⟩ := hh
    refine ⟨_, PSs.nox (pss_cons (ps_set (i := 3) scOdd.nd rfl (.inl rfl) (pe_lst (pa_cons (pv 1) (pa_cons (pv 2) (pa_cons (pe_op op_sub (pv 1) pe_int) (pa_cons (pe_op op_add (pv 2) pe_int) (pa_cons (pe_op op_pow pe_int pe_int)
        (pa_cons (pe_un un_neg (pe_op op_pow pe_int pe_int)) (pa_cons pe_bl (pa_cons pe_bl (pa_cons pe_non (pa_cons pe_str (pa_cons (pe_tup (pa_cons pe_int pa_nil)) (pa_cons (pe_lst (pa_cons pe_int pa_nil)) pa_nil))))))))))))))
      (pss_one (ps_ret (pe_call GP hr rfl gP kP bP .nil pass0 (pa_cons (pv 0) (pa_cons (pv 3) pa_nil)))))), ?_⟩
    have os : 1 ≤ sizeLine := by decide
    refine ⟨_, rfl, _, rfl, _, rfl, _, _, rfl, rfl, _, rfl, _, _, rfl, rfl, _, _, rfl, rfl, ⟨by decide, by decide, by decide⟩, _, _, rfl, rfl, ⟨by decide, by decide, by decide⟩, _, rfl, os, fun t1 h1 => ⟨os, fun l1 h2 => ⟨(by show 12 ≤ sizeLine; decide), fun L hL => ?_⟩⟩⟩
    have c1 := up2 (o := .tup [V.int 1]) h1
    have c2 := up2 (o := .lst [V.int 0]) h2
    have r2 := up2 (o := .lst [.int lo, .int hi, .int (lo - 1), .int (hi + 1), .int (10 ^ 39), .int (-(10 ^ 39)), .bl true, .bl false, .non, .str "1", .ref t1, .ref l1]) hL
    have r1 := c2.trans r2
    have r0 := c1.trans r1
    have hp' := pen_same hp r0
    refine ⟨_, rfl, _, rfl, p, L, _, rfl, hp', upd_same, ?_, ⟨(by show 0 < 12; decide), (by show 12 ≤ 1000; decide)⟩, fun v H' hv kp => ?_⟩
    · exact pen_ne hp' upd_same (fun x f z => by injection z with z; injection z with _ z; injection z with _ z; cases z)
    · refine q v H' (((Kp.refl hp).same r0).trans kp) (Th.kp ?_ kp)
      simp only [List.mem_cons, List.not_mem_nil, or_false] at hv
      rcases hv with rfl | rfl | rfl | rfl | rfl | rfl | rfl | rfl | rfl | rfl | rfl | rfl
      · exact .int _
      · exact .int _
      · exact .int _
      · exact .int _
      · exact .int _
      · exact .int _
      · exact .bl _
      · exact .bl _
      · exact .non
      · exact .str _
      · exact .tup (r1 _ _ upd_same)
      · exact .lst (r2 _ _ upd_same)
theorem scNum : FnScope ["_law_thing", "_law_least", "_law_greatest"] ["_law_thing", "_law_least", "_law_greatest"] (defScope sNum) := ⟨rfl, rfl, rfl, by decide +kernel, rfl, by decide +kernel, by decide +kernel⟩
theorem ok_num (F : Fn K "_law_number" "_law_number" sNum f fd) (T : Free mg) : FnOk P w K mg base L2.CX0 1 f fd ["_law_thing", "_law_least", "_law_greatest"] spFrom := by
  refine F.ok scNum (fun vs H Q E h => ?_) (fun cdv A outer s H vs Q E hr hh => ?_)
  · obtain ⟨x, lo, hi, rfl, _⟩ := h
    rfl
  · obtain ⟨x, lo, hi, rfl, hx, q⟩ := hh
    obtain ⟨n, ty, k1, k2⟩ := hx.ty (K := K)
    refine ⟨_, PSs.nox (pss_one (ps_ret (pe_and (pe_callB call_isi rfl T.isi boot_isinstance (pa_cons (pv 0) (pa_cons (pe_bltn rfl T.int_ (by decide +kernel) (v := .ty "int") rfl) pa_nil)))
      (pe_and (pe_not (pe_callB call_isi rfl T.isi boot_isinstance (pa_cons (pv 0) (pa_cons (pe_bltn rfl T.bool_ (by decide +kernel) (v := .ty "bool") rfl) pa_nil))))
      (pe_one (pe_chain op_le op_le (pv 1) (pv 0) (pv 2))))))), ?_⟩
    refine ⟨x, rfl, _, _, _, _, _, rfl, .ty "int", ty, kit_ty k1, _, rfl, ?_⟩
    cases x with
    | int i =>
      refine ⟨_, rfl, _, _, _, _, _, rfl, .ty "bool", ty, kit_ty k2, _, rfl, _, rfl, iteT ?_⟩
      refine ⟨_, rfl, _, rfl, _, _, rfl, rfl, _, rfl, ?_⟩
      refine ite2 (fun c => ?_) (fun c => ?_)
      · refine ⟨_, rfl, _, _, rfl, rfl, ?_⟩
        have e : numIn lo hi (.int i) = decide (i ≤ hi) := by
          show (decide (lo ≤ i) && decide (i ≤ hi)) = _
          rw [c, Bool.true_and]
        rw [e] at q
        exact q
      · have e : numIn lo hi (.int i) = false := by
          show (decide (lo ≤ i) && decide (i ≤ hi)) = _
          rw [Bool.eq_false_iff.mpr c, Bool.false_and]
        rw [e] at q
        exact q
    | bl b => exact ⟨_, rfl, _, _, _, _, _, rfl, .ty "bool", ty, kit_ty k2, _, rfl, _, rfl, iteF q⟩
    | _ => exact q
end
end K3
set_option Elab.async false
set_option linter.all false
set_option maxRecDepth 100000
set_option maxHeartbeats 2000000
namespace K3
open PySem PySem.Spec PyProof.Rows L2 Bb
theorem keys_put {kvs : List (Key × V)} {ks : List Int} (h : kvs.map (·.1) = ks.map Sum.inl) (k : Int) (v : V) :
    (putK kvs (Sum.inl k : Key) v).map (·.1) = (if k ∈ ks then ks else ks ++ [k]).map Sum.inl := by
  have mem : (kvs.any fun kv => decide (kv.1 = (Sum.inl k : Key))) = decide (k ∈ ks) := by
    have e : (kvs.any fun kv => decide (kv.1 = (Sum.inl k : Key))) = (kvs.map (·.1)).any fun x => decide (x = (Sum.inl k : Key)) := by
      rw [List.any_map]
      rfl
    rw [e, h, List.any_map]
    rw [Bool.eq_iff_iff, List.any_eq_true, decide_eq_true_iff]
    constructor
    · rintro ⟨x, hx, hk⟩
      have q : (Sum.inl x : Key) = Sum.inl k := of_decide_eq_true hk
      rw [← Sum.inl.inj q]
      exact hx
    · intro hk
      exact ⟨k, hk, decide_eq_true rfl⟩
  unfold putK
  rw [mem]
  by_cases c : k ∈ ks
  · rw [if_pos (decide_eq_true c), if_pos c, ← h, List.map_map]
    apply List.map_congr_left
    rintro ⟨a, b⟩ _
    simp only [Function.comp]
    split <;> rfl
  · rw [if_neg (by simp [c]), if_neg c, List.map_append, List.map_append, h]
    rfl
theorem rising_of {ks ys : List Int} (hp : ys.Perm ks) (hw : ys.Pairwise (· ≤ ·)) (hn : ks.Nodup) : ys.Pairwise (· < ·) := by
  have hn2 : ys.Nodup := hp.nodup_iff.mpr hn
  exact (List.pairwise_and_iff.mpr ⟨hw, hn2⟩).imp fun {a b} h => by
    obtain ⟨h1, h2⟩ := h
    omega
def spTerms : Sp := fun vs H Q _ => ∃ p : Addr, vs = [.ref p] ∧ Pen H p ∧ ∀ (T l : Addr) (ns : List Int) (up : Bool) (wd : Int) (sh : Bool) (H' : Hp), Kp p H H' → H T = none → H' T = some (.tup [.ref l, .bl up, .int wd, .bl sh]) → H' l = some (.tup (ns.map V.int)) → OkL ns → (-99 ≤ wd ∧ wd ≤ 99) → Q (.ref T) H'
section
variable {P : Program} {w : World} {K : PySem.W.Frag} {mg : Str → Option Value} {base : Heap} {f : Addr} {fd : FuncData}
abbrev nTerms : List Str := ["_law_pen_here", "_law_bars", "_law_turn", "_law_gust"]
theorem scTerms : FnScope nTerms ["_law_pen_here"] (defScope sTerms) := ⟨rfl, rfl, rfl, by decide +kernel, rfl, by decide +kernel, by decide +kernel⟩
theorem ok_terms (F : Fn K "_law_terms" "_law_terms" sTerms f fd) (h : Hl K mg) : FnOk P w K mg base L2.CX0 3 f fd ["_law_pen_here"] spTerms := by
  obtain ⟨aP, dP, GP, gP, kP, bP⟩ := h.pk (P := P) (w := w) (base := base)
  obtain ⟨aD, dD, GD, gD, kD, bD⟩ := h.dr (P := P) (w := w) (base := base)
  refine F.ok scTerms (fun vs H Q E h => ?_) (fun cdv A outer s H vs Q E hr hh => ?_)
  · obtain ⟨p, rfl, _⟩ := h
    rfl
  · obtain ⟨p, rfl, hp, q⟩ := hh
    have hr1 : Room 1 _ := hr.mono (by decide)
    have hu := hu_of hr
    refine ⟨_, PSs.nox (pss_cons (ps_set (i := 1) scTerms.nd rfl (.inl rfl) pe_dnewK)
      (pss_cons (ps_for PassesOwn.never rfl (pi_range1 rfl h.fr.rng_ (pa_cons (pe_call GD hr1 rfl gD kD bD .nil pass0 (pa_cons (pv 0) (pa_cons pe_int pa_nil))) pa_nil)) (pg_name (i := 2) scTerms.nd rfl (Or.inl rfl))
        (pss_one (ps_dput hu (pv 1) (pe_op op_add pe_int (pe_call GD hr1 rfl gD kD bD .nil pass0 (pa_cons (pv 0) (pa_cons pe_int pa_nil)))) pe_bl rfl)))
      (pss_cons (ps_set (i := 3) scTerms.nd rfl (.inl rfl) (pe_call GP hr rfl gP kP bP .nil pass0 (pa_cons (pv 0) (pa_cons (pe_lst (pa_cons pe_int (pa_cons pe_int (pa_cons pe_int (pa_cons (pe_un un_neg pe_int) (pa_cons (pe_op op_sub (pe_call GD hr1 rfl gD kD bD .nil pass0 (pa_cons (pv 0) (pa_cons pe_int pa_nil))) pe_int) pa_nil)))))) pa_nil))))
      (pss_one (ps_ret (pe_tup (pa_cons (pe_callTy call_tuple_of rfl h.fr.tup_ (by decide +kernel) (pa_cons (pe_callB (call_sortedDI rfl) rfl h.fr.srt_ (by decide +kernel) (pa_cons (pv 1) pa_nil)) pa_nil))
        (pa_cons (pe_cmpR op_eq (pe_call GD hr1 rfl gD kD bD .nil pass0 (pa_cons (pv 0) (pa_cons pe_int pa_nil))) pe_int (nomark _)) (pa_cons (pv 3)
        (pa_cons (pe_cmpR op_eq (pe_call GD hr1 rfl gD kD bD .nil pass0 (pa_cons (pv 0) (pa_cons pe_int pa_nil))) pe_int (nomark _)) pa_nil)))))))))), ?_⟩
    intro d hd
    have nd : d ≠ p := by
      rintro rfl
      obtain ⟨x, g, e⟩ := hp
      rw [hd] at e
      cases e
    have s1 : Same H (upd H d (.dK [])) := up2 hd
    have hp1 := pen_same hp s1
    refine ⟨_, rfl, p, 5, rfl, hp1, ⟨by decide, by decide⟩, fun r H1 r0 r1 kp1 => ?_⟩
    have kH1 : Kp p H H1 := ((Kp.refl hp).same s1).trans kp1
    refine ⟨r, rfl, by omega, by omega, ?_⟩
    refine for_range (lo := 0) (n := r.toNat) (fun i σ H2 => ∃ (kvs : List (Key × V)) (ks : List Int) (tv : Option V), σ = [some (.ref p), some (.ref d), tv, none] ∧ Kp p H H2 ∧ H2 d = some (.dK kvs) ∧ kvs.map (·.1) = ks.map Sum.inl ∧ ks.Nodup ∧ ks.length ≤ i ∧ ∀ k ∈ ks, 1 ≤ k ∧ k ≤ 99)
      ⟨[], [], none, rfl, kH1, kp1.keep _ _ upd_same nd, rfl, List.nodup_nil, Nat.le_refl _, fun k hk => by cases hk⟩ ?_ ?_
    · rintro i σ H2 hi ⟨kvs, ks, tv, rfl, kH2, h2, hks, hnd, hlen, hrg⟩
      refine ⟨_, rfl, ?_⟩
      refine ⟨_, rfl, p, 99, rfl, kH2.pen, ⟨by decide, by decide⟩, fun z H3 z0 z1 kp3 => ?_⟩
      refine ⟨_, _, rfl, rfl, d, _, rfl, DPut.k (k := Sum.inl (1 + z)) (kp3.keep _ _ h2 nd) (small1000 ?_), ?_⟩
      · have e : kvs.length = ks.length := by
          have := congrArg List.length hks
          simpa using this
        omega
      · have k3 : Kp p H H3 := kH2.trans kp3
        have hdn : H d = none := hd
        refine ⟨_, (if 1 + z ∈ ks then ks else ks ++ [1 + z]), _, rfl, ⟨fun b o e n => ?_, ?_⟩, upd_same, keys_put hks _ _, ?_, ?_, ?_⟩
        · rw [upd_ne (ne_of_none e hdn)]
          exact k3.keep _ _ e n
        · obtain ⟨x, g, e⟩ := k3.pen
          exact ⟨x, g, by rw [upd_ne (Ne.symm nd)]; exact e⟩
        · by_cases c : 1 + z ∈ ks
          · rw [if_pos c]
            exact hnd
          · rw [if_neg c]
            rw [List.nodup_append]
            refine ⟨hnd, by simp, ?_⟩
            intro a ha b hb
            have : b = 1 + z := by simpa using hb
            rw [this]
            rintro rfl
            exact c ha
        · by_cases c : 1 + z ∈ ks
          · rw [if_pos c]
            omega
          · rw [if_neg c, List.length_append, List.length_singleton]
            omega
        · by_cases c : 1 + z ∈ ks
          · rw [if_pos c]
            exact hrg
          · rw [if_neg c]
            intro k hk
            rcases List.mem_append.mp hk with q | q
            · exact hrg k q
            · have : k = 1 + z := by simpa using q
              omega
    · rintro σ H2 ⟨kvs, ks, tv, rfl, kH2, h2, hks, hnd, hlen, hrg⟩
      have hlen4 : ks.length ≤ 4 := by omega
      -- the gust
      refine ⟨_, rfl, _, rfl, ?_⟩
      refine ⟨_, rfl, p, 199, rfl, kH2.pen, ⟨by decide, by decide⟩, fun z H3 z0 z1 kp3 => ?_⟩
      refine ⟨_, _, rfl, rfl, (by show 5 ≤ sizeLine; decide), fun L hL => ?_⟩
      have s4 := up2 (o := .lst [.int 20, .int 0, .int 99, .int (-99), .int (z - 99)]) hL
      have k4 : Kp p H2 (upd H3 L (.lst [.int 20, .int 0, .int 99, .int (-99), .int (z - 99)])) := kp3.same s4
      have nL : L ≠ p := pen_ne k4.pen upd_same (fun x f z => by injection z with z; injection z with _ z; injection z with _ z; cases z)
      refine ⟨p, L, _, rfl, k4.pen, upd_same, nL, ⟨(by show 0 < 5; decide), (by show 5 ≤ 1000; decide)⟩, fun v H5 hv kp5 => ?_⟩
      have k5 : Kp p H2 H5 := k4.trans kp5
      obtain ⟨wd, rfl, w0, w1⟩ : ∃ wd, v = .int wd ∧ -99 ≤ wd ∧ wd ≤ 99 := by
        simp only [List.mem_cons, List.not_mem_nil, or_false] at hv
        rcases hv with rfl | rfl | rfl | rfl | rfl
        · exact ⟨_, rfl, by omega, by omega⟩
        · exact ⟨_, rfl, by omega, by omega⟩
        · exact ⟨_, rfl, by omega, by omega⟩
        · exact ⟨_, rfl, by omega, by omega⟩
        · exact ⟨_, rfl, by omega, by omega⟩
      -- the tuple
      have h5 : H5 d = some (.dK kvs) := k5.keep _ _ h2 nd
      refine ⟨_, rfl, d, kvs, ks, rfl, .inl h5, hks, by omega, fun ys S perm pw hS => ?_⟩
      refine ⟨S, _, rfl, .inl ⟨SqL.of upd_same, fun l hl => ?_⟩⟩
      have s6 := up2 (o := .lst (ys.map V.int)) hS
      have s7 := up2 (o := .tup (ys.map V.int)) hl
      have s67 := s6.trans s7
      have kA := k5.same s67
      refine ⟨_, rfl, p, 2, rfl, kA.pen, ⟨by decide, by decide⟩, fun u1 H8 _ _ kp8 => ⟨rfl, ?_⟩⟩
      refine ⟨_, rfl, ?_⟩
      refine ⟨_, rfl, p, 2, rfl, kp8.pen, ⟨by decide, by decide⟩, fun u2 H9 _ _ kp9 => ⟨rfl, ?_⟩⟩
      refine ⟨(by show 4 ≤ sizeLine; decide), fun T hT => ?_⟩
      have k9 : Kp p H H9 := (kH2.trans kA).trans (kp8.trans kp9)
      have nlp : l ≠ p := pen_ne kA.pen upd_same (fun x f z => by cases z)
      refine q T l ys _ wd _ _ (k9.same (up2 hT)) (k9.free hp hT) upd_same ?_ ?_ ⟨w0, w1⟩
      · have z8 := kp8.keep _ _ (upd_same (H := upd H5 S (.lst (ys.map V.int))) (a := l) (o := .tup (ys.map V.int))) nlp
        have z9 := kp9.keep _ _ z8 nlp
        rw [upd_ne (ne_of_none z9 hT)]
        exact z9
      · exact ⟨by rw [perm.length_eq]; exact hlen4, fun n hn => hrg n (perm.mem_iff.mp hn), rising_of perm pw hnd⟩
end
end K3
set_option Elab.async false
set_option linter.all false
set_option maxRecDepth 100000
set_option maxHeartbeats 2000000
namespace K3
open PySem PySem.Spec PyProof.Rows L2 Bb
def spClasses : Sp := fun vs H Q _ => ∃ (T l : Addr) (ns : List Int) (up : Bool) (wd : Int) (sh : Bool) (age : Int), vs = [.ref T, .int age] ∧ H T = some (.tup [.ref l, .bl up, .int wd, .bl sh]) ∧ H l = some (.tup (ns.map V.int)) ∧ ns.length ≤ 4 ∧
  ∀ q H', Same H H' → H q = none → H' q = some (.lst ((clsL (ns ++ [1000]) up age).map V.int)) → Q (.ref q) H'
theorem sqt_lst {K : PySem.W.Frag} {H : Hp} {a b : Addr} {xs ys zs : List V} (h : SqT K H a xs) (e : H b = some (.lst ys)) : SqT K (upd H b (.lst zs)) a xs := by
  rcases h with (h | ⟨o, h⟩) | h
  · refine .inl (.inl ?_)
    rw [upd_ne (ne_of h e (by intro z; cases z))]
    exact h
  · refine .inl (.inr ⟨o, ?_⟩)
    rw [upd_ne (ne_of h e (by intro z; cases z))]
    exact h
  · exact .inr h
def found (bars : List Int) (up : Bool) (age : Int) (i : Nat) : List Int := (bars.take i).zipIdx.foldl (stepC up age) []
theorem found_succ {bars : List Int} {up : Bool} {age : Int} {i : Nat} {b : Int} (h : bars[i]? = some b) : found bars up age (i + 1) = stepC up age (found bars up age i) (b, i) := by
  unfold found
  have hi := (List.getElem?_eq_some_iff.mp h).1
  rw [take_snoc h, List.zipIdx_append, List.foldl_append, List.length_take, Nat.min_eq_left (Nat.le_of_lt hi)]
  simp
theorem found_len {bars : List Int} {up : Bool} {age : Int} : ∀ i, (found bars up age i).length ≤ i := by
  intro i
  induction i with
  | zero =>
    unfold found
    simp
  | succ i ih =>
    cases h : bars[i]? with
    | none =>
      have e : found bars up age (i + 1) = found bars up age i := by
        unfold found
        rw [List.take_succ, h]
        simp
      rw [e]
      omega
    | some b =>
      rw [found_succ h]
      unfold stepC
      split
      · rw [List.length_append, List.length_singleton]
        omega
      · omega
section
variable {P : Program} {w : World} {K : PySem.W.Frag} {mg : Str → Option Value} {base : Heap} {f : Addr} {fd : FuncData}
abbrev nClasses : List Str := ["_law_row", "_law_age", "_law_found", "_law_number_here", "_law_bar"]
theorem scClasses : FnScope nClasses ["_law_row", "_law_age"] (defScope sClasses) := ⟨rfl, rfl, rfl, by decide +kernel, rfl, by decide +kernel, by decide +kernel⟩
theorem ok_classes (F : Fn K "_law_classes" "_law_classes" sClasses f fd) (T : Free mg) : FnOk P w K mg base L2.CX0 1 f fd ["_law_row", "_law_age"] spClasses := by
  refine F.ok scClasses (fun vs H Q E h => ?_) (fun cdv A outer s H vs Q E hr hh => ?_)
  · obtain ⟨t, l, ns, up, wd, sh, age, rfl, _⟩ := h
    rfl
  · obtain ⟨t, l, ns, up, wd, sh, age, rfl, ht, hl, hn, q⟩ := hh
    refine ⟨_, PSs.nox (pss_cons (ps_set (i := 2) scClasses.nd rfl (.inl rfl) (pe_lst pa_nil))
      (pss_cons (ps_for PassesOwn.never rfl (pi_enumT rfl T.enu_ (pa_cons (pe_op op_catB (pe_ix ix_tup (pv 0) pe_int (fun _ _ => rfl)) (pe_tup (pa_cons pe_int pa_nil))) pa_nil)) (pg_tup rfl (pgs_cons (pg_name (i := 3) scClasses.nd rfl (Or.inl rfl)) (pgs_cons (pg_name (i := 4) scClasses.nd rfl (Or.inl rfl)) pgs_nil)))
        (pss_one (ps_if (PW.pt (pw_and (pt_cmpR op_lt (pv 1) (pv 4) (nomark _)) (pw_and1 (PW.pt (pw_or (pt_val (pe_ix ix_tup (pv 0) pe_int (fun _ _ => rfl))) (pw_or1 (pt_cmpR (op_eqD hr.units) (pv 2) (pe_lst pa_nil) (nomark _))))))))
          (pss_one (ps_expr (pe_bm PySem.F.plainAttrs_list PySem.F.slot_list_append PySem.F.type_list_append mt_append (pv 2) (pa_cons (pv 3) pa_nil)))) pss_nil)))
      (pss_one (ps_ret (pv 2))))), ?_⟩
    have i0 : ∀ {a b c d : V}, atI [a, b, c, d] (0 : Int) = some a := fun {a b c d} => at_of (j := 0) rfl rfl
    have i1 : ∀ {a b c d : V}, atI [a, b, c, d] (1 : Int) = some b := fun {a b c d} => at_of (j := 1) rfl rfl
    refine ⟨Nat.zero_le _, fun fo hfo => ?_⟩
    have s1 := up2 (o := .lst []) hfo
    have ht1 := s1 _ _ ht
    have hl1 := s1 _ _ hl
    refine ⟨_, rfl, t, _, 0, _, rfl, rfl, SqT.of ht1, i0, (by show 1 ≤ sizeLine; decide), fun b1 hb1 => ?_⟩
    have s2 := s1.trans (up2 (o := .tup [.int 1000]) hb1)
    refine ⟨l, b1, _, _, rfl, rfl, SqT.of (s2 _ _ hl), SqT.of upd_same, ?_, fun B H2 sm hB => ?_⟩
    · have : (ns.map V.int).length + 1 ≤ 1000 := by
        rw [List.length_map]
        omega
      exact Nat.le_of_lt (small1000 this)
    have eb : ns.map V.int ++ [V.int 1000] = (ns ++ [1000]).map V.int := by simp
    rw [eb] at hB
    have hB : SqT K H2 B ((ns ++ [1000]).map V.int) := hB
    have s3 := s2.trans sm
    have hfo3 : H2 fo = some (.lst []) := sm _ _ ((up2 (o := .tup [.int 1000]) hb1) _ _ upd_same)
    have ht3 := s3 _ _ ht
    refine ⟨B, _, rfl, hB, for_it (walk_enumT (K := K) (a := B) (xs := (ns ++ [1000]).map V.int)) (fun i σ H' => ∃ v3 v4, σ = [some (.ref t), some (.int age), some (.ref fo), v3, v4] ∧ Same H H' ∧ SqT K H' B ((ns ++ [1000]).map V.int) ∧ H' fo = some (.lst ((found (ns ++ [1000]) up age i).map V.int))) ⟨none, none, rfl, s3, hB, hfo3⟩ (fun i σ H' _ ⟨_, _, _, _, z, _⟩ => z) ?_ ?_⟩
    · rintro i x σ H3 H4 hi ⟨v3, v4, rfl, sm3, hB3, hfo4⟩ ⟨Tp, u, v, rfl, hT, rfl, hu, hv⟩
      have eu : u = .int (i : Nat) := (Option.some.inj hu).symm
      subst eu
      obtain ⟨b, hb, rfl⟩ := get_map hv
      rw [List.length_map] at hi
      have s5 := up2 (o := .tup [.int (i : Nat), .int b]) hT
      have ht5 := s5 _ _ (sm3 _ _ ht)
      have hfo5 := s5 _ _ hfo4
      have fl := found_len (bars := ns ++ [1000]) (up := up) (age := age) i
      have hib : i ≤ 5 := by
        rw [List.length_append, List.length_singleton] at hi
        omega
      refine ⟨Tp, _, rfl, SqT.of upd_same, rfl, _, _, rfl, _, _, rfl, ⟨rfl, ?_⟩⟩
      refine ⟨_, rfl, _, rfl, _, _, rfl, rfl, _, rfl, ?_⟩
      -- nothing is appended
      have stay : ∀ H6 v3 v4, Same (upd H3 Tp (.tup [.int (i : Nat), .int b])) H6 → ¬ (age < b ∧ (up = true ∨ found (ns ++ [1000]) up age i = [])) →
          ∃ v3' v4', ([some (.ref t), some (.int age), some (.ref fo), v3, v4] : L2.St) = [some (.ref t), some (.int age), some (.ref fo), v3', v4'] ∧ Same H H6 ∧ SqT K H6 B ((ns ++ [1000]).map V.int) ∧ H6 fo = some (.lst ((found (ns ++ [1000]) up age (i + 1)).map V.int)) := by
        intro H6 v3 v4 s6 no
        have s56 := s5.trans s6
        refine ⟨v3, v4, rfl, sm3.trans s56, sqt_same hB3 s56, ?_⟩
        rw [found_succ hb]
        unfold stepC
        rw [if_neg no]
        exact s56 _ _ hfo4
      have add : ∀ H6, Same (upd H3 Tp (.tup [.int (i : Nat), .int b])) H6 → (age < b ∧ (up = true ∨ found (ns ++ [1000]) up age i = [])) →
          ∃ v3' v4', ([some (.ref t), some (.int age), some (.ref fo), some (.int (i : Nat)), some (.int b)] : L2.St) = [some (.ref t), some (.int age), some (.ref fo), v3', v4'] ∧ Same H (upd H6 fo (.lst ((found (ns ++ [1000]) up age i).map V.int ++ [.int (i : Nat)]))) ∧
            SqT K (upd H6 fo (.lst ((found (ns ++ [1000]) up age i).map V.int ++ [.int (i : Nat)]))) B ((ns ++ [1000]).map V.int) ∧ (upd H6 fo (.lst ((found (ns ++ [1000]) up age i).map V.int ++ [.int (i : Nat)]))) fo = some (.lst ((found (ns ++ [1000]) up age (i + 1)).map V.int)) := by
        intro H6 s6 yes
        have s56 := s5.trans s6
        refine ⟨_, _, rfl, same_upd (sm3.trans s56) hfo, ?_, ?_⟩
        · exact sqt_lst (sqt_same hB3 s56) (s56 _ _ hfo4)
        · rw [upd_same, found_succ hb]
          unfold stepC
          rw [if_pos yes, List.map_append]
          rfl
      refine ite2 (fun c => ?_) (fun c => ?_)
      · have c' : age < b := of_decide_eq_true c
        refine ⟨_, rfl, t, _, 1, _, rfl, rfl, SqT.of ht5, i1, _, rfl, ?_⟩
        cases up with
        | true =>
          refine ⟨_, rfl, .inl ⟨rfl, _, SqL.of hfo5⟩, _, rfl, fo, _, _, rfl, rfl, hfo5, ?_, add _ (Same.refl _) ⟨c', .inl rfl⟩⟩
          refine small1000 ?_
          rw [List.length_map]
          omega
        | false =>
          refine ⟨_, rfl, Nat.zero_le _, fun z hz => ?_⟩
          have s6 := up2 (o := .lst []) hz
          have hfo6 := s6 _ _ hfo5
          refine ⟨.list ((found (ns ++ [1000]) false age i).map PyData.int), .list (([] : List Int).map PyData.int), .lst (SqL.of hfo6) (dp_ints _), .lst (SqL.of upd_same) .nil, shaped_list _, shaped_list _, _, rfl, ?_⟩
          have e1 : PyData.eqv (.list ((found (ns ++ [1000]) false age i).map PyData.int)) (.list (([] : List Int).map PyData.int)) = decide (found (ns ++ [1000]) false age i = []) := by
            rw [← eqv_ints]
            simp only [PyData.eqv]
          rw [e1]
          refine ite2 (fun c2 => ?_) (fun c2 => ?_)
          · refine ⟨_, rfl, .inl ⟨rfl, _, SqL.of hfo6⟩, _, rfl, fo, _, _, rfl, rfl, hfo6, ?_, add _ s6 ⟨c', .inr (of_decide_eq_true c2)⟩⟩
            refine small1000 ?_
            rw [List.length_map]
            omega
          · refine stay _ _ _ s6 fun z2 => ?_
            rcases z2.2 with q1 | q1
            · cases q1
            · exact c2 (decide_eq_true q1)
      · exact stay _ _ _ (Same.refl _) fun z => c (decide_eq_true z.1)
    · rintro σ H3 ⟨v3, v4, rfl, sm3, hB3, hfo4⟩
      refine ⟨_, rfl, ?_⟩
      have e : found (ns ++ [1000]) up age ((ns ++ [1000]).map V.int).length = clsL (ns ++ [1000]) up age := by
        unfold found clsL
        rw [List.length_map, List.take_length]
      rw [e] at hfo4
      exact q fo H3 sm3 hfo hfo4
end
end K3
set_option Elab.async false
set_option linter.all false
set_option maxRecDepth 100000
set_option maxHeartbeats 4000000
namespace K3
open PySem PySem.Spec PyProof.Rows L2 Bb
/-! which refusal it is: the classes in the order of the law's tests, the words -/
abbrev kOrd : List Str := ["NoMark", "NoWay", "NoRules", "NoAge", "NoPerson", "NoDay", "NoDeed", "NoSheet", "NoWord", "NoBook", "NoText", "NoName"]
abbrev kTxt : Str := "nomark noway norules noage noperson noday nodeed nosheet noword nobook notext noname"
def kWords : List Str := ["nomark", "noway", "norules", "noage", "noperson", "noday", "nodeed", "nosheet", "noword", "nobook", "notext", "noname"]
theorem kSplit : Txt.split kTxt " " = kWords := by decide +kernel
def bsV (j : Nat) : List V := [.bl (decide (0 = j)), .bl (decide (1 = j)), .bl (decide (2 = j)), .bl (decide (3 = j)), .bl (decide (4 = j)), .bl (decide (5 = j)), .bl (decide (6 = j)), .bl (decide (7 = j)), .bl (decide (8 = j)), .bl (decide (9 = j)), .bl (decide (10 = j)), .bl (decide (11 = j))]
theorem bs_flat (j : Nat) : (bsV j).all flatV = true := rfl
theorem bs_count : ∀ j : Fin 12, (bsV j).countP (fun z => eqV z (.bl true)) = 1 := by decide +kernel
theorem bs_at : ∀ j : Fin 12, (bsV j)[(j : Nat)]? = some (.bl true) := by
  intro j
  match j with
  | ⟨0, _⟩ => rfl
  | ⟨1, _⟩ => rfl
  | ⟨2, _⟩ => rfl
  | ⟨3, _⟩ => rfl
  | ⟨4, _⟩ => rfl
  | ⟨5, _⟩ => rfl
  | ⟨6, _⟩ => rfl
  | ⟨7, _⟩ => rfl
  | ⟨8, _⟩ => rfl
  | ⟨9, _⟩ => rfl
  | ⟨10, _⟩ => rfl
  | ⟨11, _⟩ => rfl
theorem bs_no : ∀ j m : Fin 12, m < j → ((bsV j)[(m : Nat)]?.all fun z => !eqV z (.bl true)) = true := by decide +kernel
/-- what the class D of errors must say: it is the j-th -/
structure Kd (K : PySem.W.Frag) (mg : Str → Option Value) (D : Addr) (j : Fin 12) : Prop where
  c : ∀ (i : Nat) (x : Str), kOrd[i]? = some x → ∃ C, mg x = some (.ref C) ∧ PySem.W.kitOne K (.ref D) (.ref C) = some (decide (i = (j : Nat)))
  ve : PySem.W.kitOne K (.ref D) (.type "ValueError") = some true
  le : PySem.W.kitOne K (.ref D) (.type "LookupError") = some false
  ex : ExcC K D
section
variable {P : Program} {w : World} {K : PySem.W.Frag} {mg : Str → Option Value} {base : Heap} {f : Addr} {fd : FuncData}
abbrev nKind : List Str := ["_law_e", "_law_tests", "_law_kinds"]
theorem scKind : FnScope nKind ["_law_e"] (defScope sKind) := ⟨rfl, rfl, rfl, by decide +kernel, rfl, by decide +kernel, by decide +kernel⟩
theorem ok_kind {D : Addr} {j : Fin 12} {z : Str} (F : Fn K "_law_kind" "_law_kind" sKind f fd) (T : Free mg) (k : Kd K mg D j) (hz : kWords[(j : Nat)]? = some z) : FnE P w K mg base 1 f fd ["_law_e"] D (.str z) := by
  refine fnE F scKind fun cdv A outer s H a oe Q hr hZ hd back => ?_
  obtain ⟨C0, g0, e0⟩ := k.c 0 _ rfl
  obtain ⟨C1, g1, e1⟩ := k.c 1 _ rfl
  obtain ⟨C2, g2, e2⟩ := k.c 2 _ rfl
  obtain ⟨C3, g3, e3⟩ := k.c 3 _ rfl
  obtain ⟨C4, g4, e4⟩ := k.c 4 _ rfl
  obtain ⟨C5, g5, e5⟩ := k.c 5 _ rfl
  obtain ⟨C6, g6, e6⟩ := k.c 6 _ rfl
  obtain ⟨C7, g7, e7⟩ := k.c 7 _ rfl
  obtain ⟨C8, g8, e8⟩ := k.c 8 _ rfl
  obtain ⟨C9, g9, e9⟩ := k.c 9 _ rfl
  obtain ⟨C10, g10, e10⟩ := k.c 10 _ rfl
  obtain ⟨C11, g11, e11⟩ := k.c 11 _ rfl
  let X := L2H.cxH (fun _ _ _ _ _ _ => False) P w K mg base nKind "_law_kind" (defScope sKind) f cdv A outer s H (fun _ _ _ => False) (a, oe)
  have isi : CallR X (.builtin "isinstance") (rIsE K D a) := call_isP (X := X) List.mem_cons_self k.ex hZ hd
  have cmp : ∀ {C : Addr} {x : Str} {p q r t : Pos}, mg x = some (.ref C) → Gl X x → (x == ("__debug__" : Str)) = false →
      PE X (.Call (.Name "isinstance" p) [.Name "_law_e" q, .Name x r] [] t) (tCB (rIsE K D a) (tCons (tVar 0) (tCons (tC (.ref C)) tNil))) := fun g gl db => pe_callB isi rfl T.isi boot_isinstance (pa_cons (pv 0) (pa_cons (pe_glob gl g (v := .ref _) rfl db) pa_nil))
  refine ⟨_, pss_cons (ps_set (i := 1) scKind.nd rfl (.inl rfl) (pe_lst (pa_cons (cmp g0 rfl (by decide)) (pa_cons (cmp g1 rfl (by decide)) (pa_cons (cmp g2 rfl (by decide)) (pa_cons (cmp g3 rfl (by decide)) pa_nil))))))
    (pss_cons (ps_set (i := 1) scKind.nd rfl (.inl rfl) (pe_op op_cat (pv 1) (pe_lst (pa_cons (cmp g4 rfl (by decide)) (pa_cons (cmp g5 rfl (by decide)) (pa_cons (cmp g6 rfl (by decide)) (pa_cons (cmp g7 rfl (by decide)) pa_nil)))))))
    (pss_cons (ps_set (i := 1) scKind.nd rfl (.inl rfl) (pe_op op_cat (pv 1) (pe_lst (pa_cons (cmp g8 rfl (by decide)) (pa_cons (cmp g9 rfl (by decide)) (pa_cons (cmp g10 rfl (by decide)) (pa_cons (cmp g11 rfl (by decide)) pa_nil)))))))
    (pss_cons (ps_if (PW.pt (pw_or (pt_cmpR op_ne (pe_bm PySem.F.plainAttrs_list PySem.F.slot_list_count PySem.F.type_list_count mt_countF (pv 1) (pa_cons pe_bl pa_nil)) pe_int (nomark _))
        (pw_or (pt_not (pt_val (pe_callB isi rfl T.isi boot_isinstance (pa_cons (pv 0) (pa_cons (pe_bltn rfl T.ve_ (by decide +kernel) (v := .ty "ValueError") rfl) pa_nil)))))
        (pw_or1 (pt_val (pe_callB isi rfl T.isi boot_isinstance (pa_cons (pv 0) (pa_cons (pe_bltn rfl T.le_ (by decide +kernel) (v := .ty "LookupError") rfl) pa_nil)))))))) (pss_one (ps_ret pe_str)) pss_nil)
    (pss_cons (ps_set (i := 2) scKind.nd rfl (.inl rfl) pe_str)
    (pss_one (ps_ret (pe_ix ix_list (pe_bm PySem.F.plainAttrs_str PySem.F.slot_str_split PySem.F.type_str_split mt_split (pv 2) (pa_cons pe_str pa_nil)) (pe_bm PySem.F.plainAttrs_list PySem.F.slot_list_index PySem.F.type_list_index mt_index (pv 1) (pa_cons pe_bl pa_nil)) (fun _ _ => rfl)))))))), ?_⟩
  have own : ∀ {C : Addr} (u : Value), RelV (.ref C) u → u = .ref C := fun u r => r
  have fs : 4 ≤ sizeLine := by decide
  refine ⟨_, rfl, _, _, _, rfl, own, e0, _, rfl, _, _, _, rfl, own, e1, _, rfl, _, _, _, rfl, own, e2, _, rfl, _, _, _, rfl, own, e3, fs, fun l1 h1 => ?_⟩
  have s1 := up2 (o := .lst [.bl (decide (0 = (j : Nat))), .bl (decide (1 = (j : Nat))), .bl (decide (2 = (j : Nat))), .bl (decide (3 = (j : Nat)))]) h1
  refine ⟨_, rfl, _, rfl, _, _, _, rfl, own, e4, _, rfl, _, _, _, rfl, own, e5, _, rfl, _, _, _, rfl, own, e6, _, rfl, _, _, _, rfl, own, e7, fs, fun l2 h2 => ?_⟩
  have s2 := up2 (o := .lst [.bl (decide (4 = (j : Nat))), .bl (decide (5 = (j : Nat))), .bl (decide (6 = (j : Nat))), .bl (decide (7 = (j : Nat)))]) h2
  refine ⟨l1, l2, _, _, rfl, rfl, s2 _ _ upd_same, upd_same, (by show 4 + 4 ≤ sizeLine; decide), fun l3 h3 => ?_⟩
  have s3 := up2 (o := .lst ([.bl (decide (0 = (j : Nat))), .bl (decide (1 = (j : Nat))), .bl (decide (2 = (j : Nat))), .bl (decide (3 = (j : Nat)))] ++ [.bl (decide (4 = (j : Nat))), .bl (decide (5 = (j : Nat))), .bl (decide (6 = (j : Nat))), .bl (decide (7 = (j : Nat)))])) h3
  refine ⟨_, rfl, _, rfl, _, _, _, rfl, own, e8, _, rfl, _, _, _, rfl, own, e9, _, rfl, _, _, _, rfl, own, e10, _, rfl, _, _, _, rfl, own, e11, fs, fun l4 h4 => ?_⟩
  have s4 := up2 (o := .lst [.bl (decide (8 = (j : Nat))), .bl (decide (9 = (j : Nat))), .bl (decide (10 = (j : Nat))), .bl (decide (11 = (j : Nat)))]) h4
  refine ⟨l3, l4, _, _, rfl, rfl, s4 _ _ upd_same, upd_same, (by show 8 + 4 ≤ sizeLine; decide), fun l5 h5 => ?_⟩
  have s5 := up2 (o := .lst (bsV j)) h5
  have all : Same H _ := (s1.trans s2).trans (s3.trans (s4.trans s5))
  refine ⟨_, rfl, .inl ⟨rfl, _, SqL.of upd_same⟩, l5, bsV j, .bl true, rfl, rfl, SqL.of upd_same, rfl, bs_flat j, rfl, _, rfl, ?_⟩
  have c1 : ((((bsV j).countP fun z => eqV z (.bl true)) : Nat) : Int) = 1 := by
    rw [bs_count j]
    rfl
  show if (!decide (V.int ((((bsV j).countP fun z => eqV z (.bl true)) : Nat) : Int) = V.int 1)) = true then _ else _
  rw [c1]
  refine iteF ?_
  refine ⟨_, rfl, _, _, _, rfl, (fun u r => r), k.ve, _, rfl, ?_⟩
  refine iteF ?_
  refine ⟨_, rfl, _, _, _, rfl, (fun u r => r), k.le, _, rfl, ?_⟩
  refine iteF ?_
  refine ⟨_, rfl, rfl, _, _, rfl, rfl, rfl, (by decide +kernel), fun l6 h6 => ?_⟩
  have s6 := up2 (o := .lst ((Txt.split kTxt " ").map V.str)) h6
  have h5b : (upd _ l6 (.lst ((Txt.split kTxt " ").map V.str))) l5 = some (.lst (bsV j)) := s6 _ _ upd_same
  refine ⟨_, rfl, .inl ⟨rfl, _, SqL.of h5b⟩, l5, bsV j, .bl true, j, .bl true, rfl, rfl, SqL.of h5b, rfl, bs_flat j, bs_at j, rfl, ?_, ?_⟩
  · intro m z' hm hz'
    have lt : m < 12 := Nat.lt_trans hm j.isLt
    have q := bs_no j ⟨m, lt⟩ hm
    have hz2 : (bsV j)[((⟨m, lt⟩ : Fin 12) : Nat)]? = some z' := hz'
    rw [hz2] at q
    simpa using q
  · refine ⟨l6, (Txt.split kTxt " ").map V.str, _, .str z, rfl, rfl, SqL.of upd_same, ?_, back _ (all.trans s6)⟩
    refine at_of (j := (j : Nat)) rfl ?_
    rw [kSplit, List.getElem?_map, hz]
    rfl
end
end K3
set_option Elab.async false
set_option linter.all false
set_option maxRecDepth 100000
set_option maxHeartbeats 4000000
namespace K3
open PySem PySem.Spec PyProof.Rows L2 Bb
/-! came: what is told, or the refusal. kt: the classes that the call may raise, each with its word -/
def wish (kt : List (Addr × Str)) (Q : VK) : XK := fun cls d H' => d = none ∧ ∃ D z, (D, z) ∈ kt ∧ cls = .ref D ∧ ∀ H'', Same H' H'' → ∀ p, H'' p = none → Q (.ref p) (upd H'' p (.tup [.str "no", .str z]))
def TCame (kt : List (Addr × Str)) : (XK → Hp → VK → Prop) → Hp → VK → Prop := fun tl H Q =>
  tl (wish kt Q) H (fun v H' => [V.str "told", v].length ≤ sizeLine ∧ ∀ p, H' p = none → Q (.ref p) (upd H' p (.tup [.str "told", v])))
/-- what a class of errors says in the law -/
structure Er (K : PySem.W.Frag) (mg : Str → Option Value) (CC : Addr) (D : Addr) (z : Str) : Prop where
  kd : ∃ j : Fin 12, Kd K mg D j ∧ kWords[(j : Nat)]? = some z
  ex : PySem.W.exmOne K (.ref D) (.ref CC) = some true
abbrev nCame : List Str := ["_law_call", "_law_e"]
theorem scCame : FnScope nCame ["_law_call"] (defScope sCame) := ⟨rfl, rfl, rfl, by decide +kernel, rfl, by decide +kernel, by decide +kernel⟩
theorem came_gives {X : Cx} {g fK CC CP : Addr} {fdK : FuncData} {cdg : Value} {q : Str} {kt : List (Addr × Str)} {m : Nat} (hr : Room (m + 2) X.A) (FK : Fn X.K "_law_kind" "_law_kind" sKind fK fdK) (gK : X.mg "_law_kind" = some (.ref fK)) (T : Free X.mg)
    (gC : X.mg "ClubError" = some (.ref CC)) (gP : X.mg "NoPlace" = some (.ref CP)) (hk : ∀ D z, (D, z) ∈ kt → Er X.K X.mg CC D z) :
    LamX.GivesTo X nCame "_law_came" (defScope sCame) g cdg (defBody sCame) "_law_call" q (TCame kt) := by
  intro f c' s H Q tl act hc h
  let Z : Cx := (cxOf C8.CX0 X.prog X.w X.K X.mg X.base nCame "_law_came" (defScope sCame) g cdg X.A X.stack s H C8.E0).nox
  have bK : Binds X.K fdK ["_law_e"] [] := FK.bindsN fun _ _ _ _ _ _ us hl => match us, hl with | [_], _ => rfl
  have room : L2H.RoomH 1 Z.A := ((L2H.roomH_of hr).mono (by omega)).deeper _
  let ts1 : Addr → Value → Option Addr → TS := fun a cls d => fun De σ H => ∃ D z, cls = .ref D ∧ d = none ∧ (D, z) ∈ kt ∧
    (σ.length = 2 → tRet (tTup (tCons (tC (.str "no")) (tCons (fun σ H Q => (tCons (tVar 1) tNil) σ H fun vs H1 => vs = [.ref a] ∧ ∀ H', (∀ b o, H1 b = some o → H' b = some o) → Q (.str z) H') tNil))) De σ H)
  refine ⟨_, pss_one (ps_try_all (X := Z) (l := [(.ref CC, 1, ts1), (.ref CP, 1, fun _ _ _ => tNever)]) (Wout := fun _ _ _ _ => False)
    (tb := fun W D σ H => ∃ Ech : XK, (∀ cls d σ' H', Ech cls d H' → W cls d σ' H') ∧ tRet (tTup (tCons (tC (.str "told")) (tCons (fun σZ HZ Q => σZ[0]? = some (some (.ref f)) ∧ HZ c' = some (LamX.CodeO c' q) ∧ tl Ech HZ Q) tNil))) D σ H)
    rfl rfl scCame.nd LamX.takes0 (fun W pn xe tk _ => ?_)
    (.cons rfl rfl ⟨rfl, by decide, .inl gC⟩ (fun a oe cls d pn hz hf => ?_) (.cons rfl rfl ⟨rfl, by decide, .inl gP⟩ (fun a oe cls d pn hz hf => pss_never) .nil))), ?_⟩
  · refine ⟨fun pins s' σ H' D I h' => ?_⟩
    obtain ⟨Ech, hW, h1⟩ := h'
    exact (pss_one (ps_ret (pe_tup (pa_cons pe_str (pa_cons (act W pn xe Ech _ _ tk hW) pa_nil))))).run pins s' σ H' D I h1
  · refine ⟨fun pins s' σ H' De I h' => ?_⟩
    obtain ⟨D, z, rfl, rfl, hm, h1⟩ := h'
    obtain ⟨j, kd, hw⟩ := (hk D z hm).kd
    have FE : FnE X.prog X.w X.K X.mg X.base 1 fK fdK ["_law_e"] D (.str z) := ok_kind FK T kd hw
    exact (pss_one (ps_ret (pe_tup (pa_cons pe_str (pa_cons (pe_callE (X := Z) (x := "_law_kind") FE room rfl gK FK.kp bK hz hf (pa_cons (pv 1) pa_nil)) pa_nil))))).run pins s' σ H' De I (h1 I.len)
  · refine ⟨wish kt Q, ?_, ?_⟩
    · rintro cls d σ' H' ⟨rfl, D, z, hm, rfl, back⟩
      refine ⟨true, (hk D z hm).ex, fun _ a ha => ?_, fun e => by cases e⟩
      refine ⟨D, z, rfl, rfl, hm, fun hlen => ?_⟩
      have e : (σ'.set 1 (some (V.ref a)))[1]? = some (some (V.ref a)) := by
        rw [List.length_set] at hlen
        rw [List.getElem?_set_self (by omega)]
      exact ⟨_, e, rfl, fun H'' sm => ⟨(by show 2 ≤ sizeLine; decide), fun p hp => back H'' sm p hp⟩⟩
    · exact ⟨rfl, hc, h⟩
end K3
set_option Elab.async false
set_option linter.all false
set_option maxRecDepth 100000
set_option maxHeartbeats 4000000
namespace K3
open PySem PySem.Spec PyProof.Rows L2 Bb
/-! tables of code objects stay while the pen writes, while a list is written -/
theorem tabs_at {Ts : List (Addr × Str)} {H H' : Hp} (t : LamX.Tabs Ts H) (k : ∀ b o, H b = some o → (∀ xs, o ≠ .lst xs) → H' b = some o) : LamX.Tabs Ts H' := by
  intro q hq
  obtain ⟨ps, h1, h2, h3⟩ := t q hq
  refine ⟨ps, k _ _ h1 (fun xs z => by cases z), h2, fun pos cv hc => ?_⟩
  obtain ⟨c, e1, e2⟩ := h3 pos cv hc
  refine ⟨c, e1, k _ _ e2 (fun xs z => ?_)⟩
  unfold LamX.CodeO at z
  cases z
theorem tabs_kp {Ts : List (Addr × Str)} {H H' : Hp} {p : Addr} (t : LamX.Tabs Ts H) (hp : Pen H p) (k : Kp p H H') : LamX.Tabs Ts H' :=
  tabs_at t fun b o e n => k.keep b o e fun z => by
    obtain ⟨x, f, e2⟩ := hp
    rw [z, e2] at e
    exact n _ (Option.some.inj e).symm
theorem extN_same {H H' : Hp} (s : Same H H') : LamX.ExtN H H' := fun b o e _ => s b o e
/-- the turn's things: the rules at x, the row at R, the pen at p, the tables -/
structure Tn (Ts : List (Addr × Str)) (C : Addr) (H : Hp) (p x l R : Addr) (ns : List Int) (up : Bool) (wd : Int) (sh : Bool) : Prop where
  at_ : At C H x l ns up wd sh
  row : H R = some (.tup [.ref l, .bl up, .int wd, .bl sh])
  pen : Pen H p
  tab : LamX.Tabs Ts H
  okw : -99 ≤ wd ∧ wd ≤ 99
section
variable {Ts : List (Addr × Str)} {C : Addr} {H H' : Hp} {p x l R : Addr} {ns : List Int} {up : Bool} {wd : Int} {sh : Bool}
theorem Tn.same (t : Tn Ts C H p x l R ns up wd sh) (s : Same H H') : Tn Ts C H' p x l R ns up wd sh :=
  ⟨t.at_.same s, s _ _ t.row, pen_same t.pen s, t.tab.ext s, t.okw⟩
theorem Tn.kp (t : Tn Ts C H p x l R ns up wd sh) (k : Kp p H H') : Tn Ts C H' p x l R ns up wd sh := by
  obtain ⟨⟨⟨dx, h1⟩, h2, h3⟩, h4, h5, h6, h7⟩ := t
  have n1 : x ≠ p := pen_ne h5 h1 (fun _ _ z => by cases z)
  have n2 : l ≠ p := pen_ne h5 h2 (fun _ _ z => by cases z)
  have n3 : R ≠ p := pen_ne h5 h4 (fun _ _ z => by cases z)
  exact ⟨⟨⟨dx, k.keep _ _ h1 n1⟩, k.keep _ _ h2 n2, h3⟩, k.keep _ _ h4 n3, k.pen, tabs_kp h6 h5 k, h7⟩
theorem Tn.ext (t : Tn Ts C H p x l R ns up wd sh) (e : LamX.ExtN H H') (tb : LamX.Tabs Ts H') : Tn Ts C H' p x l R ns up wd sh := by
  obtain ⟨⟨⟨dx, h1⟩, h2, h3⟩, h4, ⟨u, v, h5⟩, h6, h7⟩ := t
  exact ⟨⟨⟨dx, e _ _ h1 (fun _ z => by cases z)⟩, e _ _ h2 (fun _ z => by cases z), h3⟩, e _ _ h4 (fun _ z => by cases z), ⟨u, v, e _ _ h5 (fun _ z => by cases z)⟩, tb, h7⟩
end
theorem Th.ext {H H' : Hp} {v : V} (t : Th H v) (e : LamX.ExtN H H') : Th H' v := by
  cases t with
  | non => exact .non
  | bl b => exact .bl b
  | int i => exact .int i
  | str z => exact .str z
  | lst h => exact .lst (e _ _ h (fun _ z => by cases z))
  | tup h => exact .tup (e _ _ h (fun _ z => by cases z))
  | dic h => exact .dic (e _ _ h (fun _ z => by cases z))
theorem numIn_int {v : V} (h : numIn 0 300 v = true) : ∃ age, v = .int age ∧ 0 ≤ age ∧ age ≤ 300 := by
  cases v with
  | int i =>
    have h' : (decide (0 ≤ i) && decide (i ≤ 300)) = true := h
    rw [Bool.and_eq_true] at h'
    exact ⟨i, rfl, of_decide_eq_true h'.1, of_decide_eq_true h'.2⟩
  | _ => cases h
theorem extN_kp {H H' : Hp} {p : Addr} {G : Hp} (e : LamX.ExtN G H) (np : G p = none) (hp : Pen H p) (k : Kp p H H') : LamX.ExtN G H' := fun b o h n => k.keep b o (e b o h n) (ne_of_none h np)
theorem int_at {ns : List Int} {z0 : Int} {lo hi : Option Int} {i : Nat} {y : V} (h : ([V.int z0] ++ cutV (ns.map V.int) lo hi)[i]? = some y) : ∃ z, y = .int z := by
  have m := List.mem_of_getElem? h
  rcases List.mem_append.mp m with q | q
  · exact ⟨z0, by simpa using q⟩
  · unfold cutV at q
    have q2 := List.mem_of_mem_drop (List.mem_of_mem_take q)
    obtain ⟨z, _, e⟩ := List.mem_map.mp q2
    exact ⟨z, e.symm⟩
theorem rng_shown {ns : List Int} (ok : OkL ns) (up : Bool) (age : Int) : ∀ n ∈ clsP ns up age, n.natAbs < 10 ^ 18 := fun n hn => by
  have := clsP_rng ok up age n hn
  omega
theorem len_shown {ns : List Int} (ok : OkL ns) (up : Bool) (age : Int) : (clsP ns up age).length ≤ 1000 := Nat.le_trans (clsP_len ok up age) (by decide)
theorem ints_rep {ns : List Int} (hr : ∀ n ∈ ns, n.natAbs < 10 ^ 18) (hl : ns.length ≤ 1000) : (PyData.list (ns.map PyData.int)).showable = true ∧ (PyData.list (ns.map PyData.int)).depth ≤ 60 ∧ (PyData.list (ns.map PyData.int)).shown.length ≤ sizeLine := by
  refine ⟨show_ints ns hr, ?_, ?_⟩
  · show PyData.depthAll (ns.map PyData.int) + 1 ≤ 60
    rw [depth_ints]
    decide
  · have h1 := listText_le (PyData.shownAll (ns.map PyData.int))
    have h2 := piled_ints ns hr
    show (listText (PyData.shownAll (ns.map PyData.int))).length ≤ sizeLine
    rw [sizeLine_eq]
    omega
theorem same_text {s : Str} : (!decide (V.str s = V.str s)) = false := by simp
theorem noage_shown : (reprText (Str.ofString "noage")).length ≤ sizeLine := by decide +kernel
end K3
set_option Elab.async false
set_option linter.all false
set_option maxRecDepth 100000
set_option maxHeartbeats 4000000
namespace K3
open PySem PySem.Spec PyProof.Rows L2 Bb
/-! all that the law's own def wants of the head -/
structure All (P : Program) (w : World) (K : PySem.W.Frag) (mg : Str → Option Value) : Prop where
  fr : Free mg
  hlp : Hlp K mg
  hl : Hl K mg
  cell : ∃ a d, Fn K "_law_cell" "_law_cell" sCell a d ∧ mg "_law_cell" = some (.ref a)
  pen : ∃ a d, Fn K "_law_pen" "_law_pen" sPen a d ∧ mg "_law_pen" = some (.ref a)
  terms : ∃ a d, Fn K "_law_terms" "_law_terms" sTerms a d ∧ mg "_law_terms" = some (.ref a)
  classes : ∃ a d, Fn K "_law_classes" "_law_classes" sClasses a d ∧ mg "_law_classes" = some (.ref a)
  odd : ∃ a d, Fn K "_law_odd" "_law_odd" sOdd a d ∧ mg "_law_odd" = some (.ref a)
  any : ∃ a d, Fn K "_law_anything" "_law_anything" sAny a d ∧ mg "_law_anything" = some (.ref a)
  num : ∃ a d, Fn K "_law_number" "_law_number" sNum a d ∧ mg "_law_number" = some (.ref a)
  kind : ∃ a d, Fn K "_law_kind" "_law_kind" sKind a d ∧ mg "_law_kind" = some (.ref a)
  came : ∃ a d, Fn K "_law_came" "_law_came" sCame a d ∧ mg "_law_came" = some (.ref a)
/-- the class Rules with its methods; the errors' classes -/
structure Own (K : PySem.W.Frag) (mg : Str → Option Value) (C CA CC : Addr) : Prop where
  r : RulesT K mg C
  ini : ∃ a d dvs, FunD K "__init__" "Rules.__init__" (defArgs sInit) (defBody sInit) (defScope sInit) dvs [] a d ∧ dvs.length = 4 ∧ Mk K C a
  cls : ∃ a d, Fn K "classes_of" "Rules.classes_of" sCls a d ∧ Meth K C "classes_of" a
  len : ∃ a d, Fn K "__len__" "Rules.__len__" sLen a d ∧ PySem.W.findIn K (.ref C) "__len__" = some (some (.ref a)) ∧ PySem.W.isFn K (.ref a) = true
  eq : ∃ a d, Fn K "__eq__" "Rules.__eq__" sEq a d ∧ PySem.W.findIn K (.ref C) "__eq__" = some (some (.ref a)) ∧ PySem.W.isFn K (.ref a) = true
  ne : PySem.W.findIn K (.ref C) "__ne__" = some (some (.builtin "object.__ne__"))
  ob : PySem.W.subIn K (.ref C) (.type "object") = some true
  ea : ErrT K mg "NoAge" CA
  er : Er K mg CC CA "noage"
  cc : mg "ClubError" = some (.ref CC)
  np : ∃ CP, mg "NoPlace" = some (.ref CP)
abbrev nLaw : List Str := ["_law_script", "_law_cell_here", "_law_pen_here", "_law_row", "_law_ages", "_law_bar", "_law_age", "_law_turn", "_law_told", "_law_due", "_law_odd_here", "_law_one"]
theorem scLaw : FnScope nLaw ["_law_script"] (defScope sLaw) := ⟨rfl, rfl, rfl, by decide +kernel, rfl, by decide +kernel, by decide +kernel⟩
/-- all parameters of Rules are given -/
theorem init_binds {K : PySem.W.Frag} {f : Addr} {fd : FuncData} {dvs : List V} (F : FunD K "__init__" "Rules.__init__" (defArgs sInit) (defBody sInit) (defScope sInit) dvs [] f fd) (h : dvs.length = 4) : Binds K fd nInit [] := by
  obtain ⟨ds, rd, b⟩ := F.binds1 (ps := nInit) 5 4 (by intro e; rw [e] at h; cases h) (by rw [h]; rfl) (fun T kV doc pm an cdv ct us its h1 h2 => by
    rw [h] at h2
    match us, its, h1, h2 with
    | [_, _, _, _, _], [_, _, _, _], _, _ => exact ⟨_, rfl, rfl⟩)
  have e : dvs.drop 4 = [] := List.drop_of_length_le (by omega)
  rw [e] at rd
  cases rd
  exact b
section
variable {P : Program} {w : World} {K : PySem.W.Frag} {mg : Str → Option Value} {base : Heap} {f : Addr} {fd : FuncData}
def spLaw (K : PySem.W.Frag) (Pt : Addr) : Sp := fun vs H Q _ => ∃ (a : Addr) (ns : List Int), vs = [.ref a] ∧ SqL K H a (ns.map V.int) ∧ ns.length ≤ 63 ∧ H Pt = some (.tbl #[]) ∧ ∀ H', Q (.bl true) H'
theorem ok_law {C CA CC c Pt : Addr} (F : Fn K "law" "law" sLaw f fd) (hcode : fd.code = .ref c) (TB : LamX.TabB base mg c Pt) (h : All P w K mg) (o : Own K mg C CA CC) : FnG P w K mg base L2.CX0 7 f fd ["_law_script"] (spLaw K Pt) := by
  obtain ⟨aCe, dCe, FCe, gCe⟩ := h.cell
  obtain ⟨aPe, dPe, FPe, gPe⟩ := h.pen
  obtain ⟨aTe, dTe, FTe, gTe⟩ := h.terms
  obtain ⟨aCl, dCl, FCl, gCl⟩ := h.classes
  obtain ⟨aOd, dOd, FOd, gOd⟩ := h.odd
  obtain ⟨aAn, dAn, FAn, gAn⟩ := h.any
  obtain ⟨aNu, dNu, FNu, gNu⟩ := h.num
  obtain ⟨aKi, dKi, FKi, gKi⟩ := h.kind
  obtain ⟨aCa, dCa, FCa, gCa⟩ := h.came
  obtain ⟨aDr, dDr, GDr, gDr, kDr, bDr⟩ := h.hl.dr (P := P) (w := w) (base := base)
  obtain ⟨aIn, dIn, dvs, FIn, hdv, MK⟩ := o.ini
  obtain ⟨aMe, dMe, FMe, mMe⟩ := o.cls
  obtain ⟨aLe, dLe, FLe, lLe, iLe⟩ := o.len
  obtain ⟨aEq, dEq, FEq, lEq, iEq⟩ := o.eq
  obtain ⟨CP, gNP⟩ := o.np
  have T := h.fr
  have R := o.r
  have GCe : FnOk P w K mg base L2.CX0 1 aCe dCe ["_law_script", "_law_k"] (spCell K) := ok_cell FCe T
  have GPe : FnOk P w K mg base L2.CX0 1 aPe dPe ["_law_cell_here"] spPen := ok_pen FPe T
  have GTe : FnOk P w K mg base L2.CX0 3 aTe dTe ["_law_pen_here"] spTerms := ok_terms FTe h.hl
  have GCl : FnOk P w K mg base L2.CX0 1 aCl dCl ["_law_row", "_law_age"] spClasses := ok_classes FCl T
  have GOd : FnOk P w K mg base L2.CX0 3 aOd dOd ["_law_pen_here", "_law_least", "_law_greatest"] spOdd := ok_odd FOd h.hl
  have GAn : FnOk P w K mg base L2.CX0 3 aAn dAn ["_law_pen_here"] spThing := ok_any FAn h.hl
  have GNu : FnOk P w K mg base L2.CX0 1 aNu dNu ["_law_thing", "_law_least", "_law_greatest"] spFrom := ok_num FNu T
  have GIn : FnOk P w K mg base L2.CX0 4 aIn dIn nInit (spInit C) := ok_init FIn h.hlp R
  have GMe : FnOk P w K mg base (L2.CX P w) 4 aMe dMe ["self", "age"] (spCls C CA) := ok_cls FMe h.hlp R FLe lLe iLe o.ea
  have GLe : FnOk P w K mg base L2.CX0 1 aLe dLe ["self"] (spLen C) := ok_len FLe T R
  have GEq : FnOk P w K mg base L2.CX0 1 aEq dEq ["self", "other"] (spEq C) := ok_eq FEq T R
  have bCe : Binds K dCe ["_law_script", "_law_k"] [] := FCe.bindsN fun _ _ _ _ _ _ us hl => match us, hl with | [_, _], _ => rfl
  have bPe : Binds K dPe ["_law_cell_here"] [] := FPe.bindsN fun _ _ _ _ _ _ us hl => match us, hl with | [_], _ => rfl
  have bTe : Binds K dTe ["_law_pen_here"] [] := FTe.bindsN fun _ _ _ _ _ _ us hl => match us, hl with | [_], _ => rfl
  have bCl : Binds K dCl ["_law_row", "_law_age"] [] := FCl.bindsN fun _ _ _ _ _ _ us hl => match us, hl with | [_, _], _ => rfl
  have bOd : Binds K dOd ["_law_pen_here", "_law_least", "_law_greatest"] [] := FOd.bindsN fun _ _ _ _ _ _ us hl => match us, hl with | [_, _, _], _ => rfl
  have bAn : Binds K dAn ["_law_pen_here"] [] := FAn.bindsN fun _ _ _ _ _ _ us hl => match us, hl with | [_], _ => rfl
  have bNu : Binds K dNu ["_law_thing", "_law_least", "_law_greatest"] [] := FNu.bindsN fun _ _ _ _ _ _ us hl => match us, hl with | [_, _, _], _ => rfl
  have bMe : Binds K dMe ["self", "age"] [] := FMe.bindsN fun _ _ _ _ _ _ us hl => match us, hl with | [_, _], _ => rfl
  have bLe : Binds K dLe ["self"] [] := FLe.bindsN fun _ _ _ _ _ _ us hl => match us, hl with | [_], _ => rfl
  have bEq : Binds K dEq ["self", "other"] [] := FEq.bindsN fun _ _ _ _ _ _ us hl => match us, hl with | [_, _], _ => rfl
  have bIn : Binds K dIn nInit [] := init_binds FIn hdv
  have bCa : Binds K dCa ["_law_call"] [] := FCa.bindsN fun _ _ _ _ _ _ us hl => match us, hl with | [_], _ => rfl
  obtain ⟨oc, od, dV, kV, doc, pm, an, cdC, ct, osl, rfl, lkC, hcC, _, _⟩ := FCa.ex
  refine fnG F scLaw (fun vs H Q E h => ?_) (fun cdv A outer s H vs Q E gd hr hcd hh => ?_)
  · obtain ⟨a, ns, rfl, _⟩ := h
    rfl
  · obtain ⟨a, ns, rfl, ha, hn, hPt, back⟩ := hh
    have ecd := hcd c hcode
    let X := (cxOf L2.CX0 P w K mg base nLaw "law" (defScope sLaw) f cdv A outer s H E).nox
    have gdX : X.A.guards = some [] := gd
    have rep := call_repr (X := X) gdX hr.units
    let qn : Str := X.env.qual ++ "<lambda>"
    let Ts : List (Addr × Str) := [(Pt, qn)]
    refine' ⟨_, PSs.nox ?d, ?r⟩
    case d =>
      refine' pss_cons (ps_for PassesOwn.never rfl (pi_list (pe_op op_cat (pe_lst (pa_cons (pe_call GCe (hr.mono (by decide)) rfl gCe FCe.kp bCe .nil pass0 (pa_cons (pv 0) (pa_cons pe_int pa_nil))) pa_nil)) (pe_slice sl_list (pv 0) (po_some pe_int) (po_some pe_int)))) (pg_name (i := 1) scLaw.nd rfl (Or.inl rfl)) ?l1) ?z0
      case l1 =>
        refine' pss_cons (ps_set (i := 2) scLaw.nd rfl (.inl rfl) (pe_call GPe (hr.mono (by decide)) rfl gPe FPe.kp bPe .nil pass0 (pa_cons (pv 1) pa_nil))) ?w0
        case w0 =>
          refine' pss_cons (ps_set (i := 3) scLaw.nd rfl (.inl rfl) (pe_call GTe (hr.mono (by decide)) rfl gTe FTe.kp bTe .nil pass0 (pa_cons (pv 2) pa_nil))) ?w1
          case w1 =>
            refine' pss_cons (ps_set (i := 11) scLaw.nd rfl (.inr rfl) (pe_make MK GIn (hr.mono (by decide)) rfl R.gC bIn .nil pass0 (pa_cons (pe_ix ix_tup (pv 3) pe_int (fun _ _ => rfl)) (pa_cons (pe_ix ix_tup (pv 3) pe_int (fun _ _ => rfl)) (pa_cons (pe_ix ix_tup (pv 3) pe_int (fun _ _ => rfl)) (pa_cons (pe_ix ix_tup (pv 3) pe_int (fun _ _ => rfl)) pa_nil)))))) ?w2
            case w2 =>
              refine' pss_cons (ps_set (i := 4) scLaw.nd rfl (.inl rfl) (pe_lst (pa_cons pe_int (pa_cons pe_int (pa_cons (pe_call GDr (hr.mono (by decide)) rfl gDr kDr bDr .nil pass0 (pa_cons (pv 2) (pa_cons pe_int pa_nil))) (pa_cons (pe_call GDr (hr.mono (by decide)) rfl gDr kDr bDr .nil pass0 (pa_cons (pv 2) (pa_cons pe_int pa_nil))) pa_nil)))))) ?w3
              case w3 =>
                refine' pss_cons (ps_for PassesOwn.never rfl (pi_tup (pe_ix ix_tup (pv 3) pe_int (fun _ _ => rfl))) (pg_name (i := 5) scLaw.nd rfl (Or.inl rfl)) (pss_one (ps_set (i := 4) scLaw.nd rfl (.inl rfl) (pe_op op_cat (pv 4) (pe_lst (pa_cons (pv 5) (pa_cons (pe_op op_sub (pv 5) pe_int) (pa_cons (pe_op op_add (pv 5) pe_int) pa_nil)))))))) ?w4
                case w4 =>
                  refine' pss_cons (ps_for PassesOwn.never rfl (pi_list (pv 4)) (pg_name (i := 6) scLaw.nd rfl (Or.inl rfl)) (pss_one (ps_for PassesOwn.never rfl (pi_range1 rfl T.rng_ (pa_cons pe_int pa_nil)) (pg_name (i := 7) scLaw.nd rfl (Or.inl rfl)) ?l6))) ?w5
                  case l6 =>
                    refine' pss_cons (ps_set (i := 8) scLaw.nd rfl (.inl rfl) (pe_meth (pv 11) R.cl mMe GMe (hr.mono (by decide)) bMe .nil passL (pa_cons (pv 6) pa_nil))) ?u0
                    case u0 =>
                      refine' pss_cons (ps_if (pt_cmpR op_ne (pe_callB rep rfl T.rep_ boot_repr (pa_cons (pv 8) pa_nil)) (pe_callB rep rfl T.rep_ boot_repr (pa_cons (pe_call GCl (hr.mono (by decide)) rfl gCl FCl.kp bCl .nil pass0 (pa_cons (pv 3) (pa_cons (pv 6) pa_nil))) pa_nil)) (nomark _)) (pss_one (ps_ret pe_bl)) pss_nil) ?u1
                      case u1 =>
                        exact pss_one (ps_expr (pe_bm PySem.F.plainAttrs_list PySem.F.slot_list_append PySem.F.type_list_append mt_append (pv 8) (pa_cons pe_int pa_nil)))
                  case w5 =>
                    refine' pss_cons (ps_for PassesOwn.never rfl (pi_list (pe_lst (pa_cons (pe_un un_neg pe_int) (pa_cons pe_int (pa_cons pe_non (pa_cons pe_bl (pa_cons pe_str (pa_cons (pe_call GOd (hr.mono (by decide)) rfl gOd FOd.kp bOd .nil pass0 (pa_cons (pv 2) (pa_cons (pe_un un_neg pe_int) (pa_cons pe_int pa_nil)))) (pa_cons (pe_call GAn (hr.mono (by decide)) rfl gAn FAn.kp bAn .nil pass0 (pa_cons (pv 2) pa_nil)) pa_nil))))))))) (pg_name (i := 10) scLaw.nd rfl (Or.inr rfl)) ?l7) ?w6
                    case l7 =>
                      refine' pss_cons (ps_set (i := 9) scLaw.nd rfl (.inl rfl) pe_str) ?v0
                      case v0 =>
                        refine' pss_cons (ps_if (pt_val (pe_call GNu (hr.mono (by decide)) rfl gNu FNu.kp bNu .nil pass0 (pa_cons (pv 10) (pa_cons pe_int (pa_cons pe_int pa_nil))))) (pss_one (ps_set (i := 9) scLaw.nd rfl (.inl rfl) (pe_call GCl (hr.mono (by decide)) rfl gCl FCl.kp bCl .nil pass0 (pa_cons (pv 3) (pa_cons (pv 10) pa_nil))))) pss_nil) ?v1
                        case v1 =>
                          refine' pss_one (ps_if (pt_cmpR op_ne (pe_callB rep rfl T.rep_ boot_repr (pa_cons (pe_ix ix_tup ?lam pe_int (fun _ _ => rfl)) pa_nil)) (pe_callB rep rfl T.rep_ boot_repr (pa_cons (pv 9) pa_nil)) (nomark _)) (pss_one (ps_ret pe_bl)) pss_nil)
                          case lam =>
                            refine' LamX.pe_lamcall (x := "_law_came") (a := "_law_call") (T := Ts) (c := c) (P := Pt) (k := 4) (t := fun E' => tMeth C "classes_of" (spCls C CA) [] E' (tVar 11) (tCons (tVar 10) tNil)) rfl gCa FCa.kp lkC hcC bCa scCame rfl (.inl rfl) ?lg TB ecd List.mem_cons_self ?lu hr (LamX.lamS_by (sc := defScope sLaw) (by decide +kernel)) rfl (fun _ _ _ _ _ => rfl) ?lb
                            case lg =>
                              refine came_gives (kt := [(CA, "noage")]) (m := 4) hr FKi gKi T o.cc gNP (fun D z hm => ?_)
                              have e : (D, z) = (CA, Str.ofString "noage") := by simpa using hm
                              injection e with e1 e2
                              rw [e1, e2]
                              exact o.er
                            case lu =>
                              intro p hp _
                              have e : p = (Pt, qn) := by simpa [Ts] using hp
                              rw [e]
                            case lb =>
                              intro A' outer' s' H' E' f' c' hr'
                              exact pe_meth (pv 11) R.cl mMe GMe hr' bMe .nil (passes_call (takes_of rfl rfl rfl rfl) (fun _ _ _ _ h => h)) (pa_cons (pv 10) pa_nil)
                    case w6 =>
                      exact pss_one (ps_if (PW.pt (pw_or (pt_cmpR op_ne (pe_callB (call_lenOwn GLe (hr.mono (by decide)) lLe iLe bLe pass0) rfl T.len_ boot_len (pa_cons (pv 11) pa_nil)) (pe_op op_add (pe_callB call_len_seq rfl T.len_ boot_len (pa_cons (pe_ix ix_tup (pv 3) pe_int (fun _ _ => rfl)) pa_nil)) pe_int) (nomark _)) (pw_or1 (pt_cmpR (op_neOwn GEq (hr.mono (by decide)) lEq iEq o.ne o.ob bEq pass0) (pv 11) (pe_make MK GIn (hr.mono (by decide)) rfl R.gC bIn .nil pass0 (pa_cons (pe_ix ix_tup (pv 3) pe_int (fun _ _ => rfl)) (pa_cons (pe_ix ix_tup (pv 3) pe_int (fun _ _ => rfl)) (pa_cons (pe_ix ix_tup (pv 3) pe_int (fun _ _ => rfl)) (pa_cons (pe_ix ix_tup (pv 3) pe_int (fun _ _ => rfl)) pa_nil))))) (nomark _))))) (pss_one (ps_ret pe_bl)) pss_nil)
      case z0 =>
        exact pss_one (ps_ret pe_bl)
    case r =>
      have i0 : ∀ {a b c d : V}, atI [a, b, c, d] (0 : Int) = some a := fun {a b c d} => at_of (j := 0) rfl rfl
      have i1 : ∀ {a b c d : V}, atI [a, b, c, d] (1 : Int) = some b := fun {a b c d} => at_of (j := 1) rfl rfl
      have i2 : ∀ {a b c d : V}, atI [a, b, c, d] (2 : Int) = some c := fun {a b c d} => at_of (j := 2) rfl rfl
      have i3 : ∀ {a b c d : V}, atI [a, b, c, d] (3 : Int) = some d := fun {a b c d} => at_of (j := 3) rfl rfl
      have t0 : LamX.Tabs Ts H := by
        intro q hq
        have e : q = (Pt, qn) := by simpa [Ts] using hq
        rw [e]
        exact LamX.TabS.nil hPt
      refine ⟨_, rfl, a, ns, rfl, ha, hn, fun z0 => ⟨(by show 1 ≤ sizeLine; decide), fun l1 h1 => ?_⟩⟩
      have s1 := up2 (o := .lst [.int z0]) h1
      refine ⟨_, rfl, _, rfl, _, rfl, a, _, rfl, sql_same ha s1, fun l2 h2 => ?_⟩
      have s2 := up2 (o := .lst (cutV (ns.map V.int) (some 1) (some 4))) h2
      refine ⟨l1, l2, _, _, rfl, rfl, s2 _ _ upd_same, upd_same, ?_, fun l3 h3 => ?_⟩
      · have q1 := cutV_length (ns.map V.int) (some 1) (some 4)
        rw [List.length_map] at q1
        have q2 : ([V.int z0].length : Nat) = 1 := rfl
        exact Nat.le_of_lt (small1000 (by omega))
      have s3 := up2 (o := .lst ([.int z0] ++ cutV (ns.map V.int) (some 1) (some 4))) h3
      obtain ⟨H0, eH0⟩ : ∃ G, G = upd (upd (upd H l1 (.lst [.int z0])) l2 (.lst (cutV (ns.map V.int) (some 1) (some 4)))) l3 (.lst ([.int z0] ++ cutV (ns.map V.int) (some 1) (some 4))) := ⟨_, rfl⟩
      have hL0 : H0 l3 = some (.lst ([.int z0] ++ cutV (ns.map V.int) (some 1) (some 4))) := by
        rw [eH0]
        exact upd_same
      have tb0 : LamX.Tabs Ts H0 := by
        rw [eH0]
        exact t0.ext (s1.trans (s2.trans s3))
      rw [← eH0]
      refine ⟨l3, rfl, ⟨_, SqL.of hL0⟩, for_list (K := K) (a := l3) (xs := [.int z0] ++ cutV (ns.map V.int) (some 1) (some 4)) (fun i σ H' => ∃ v1 v2 v3 v4 v5 v6 v7 v8 v9 v10 v11 : Option V, σ = [some (.ref a), v1, v2, v3, v4, v5, v6, v7, v8, v9, v10, v11] ∧ LamX.ExtN H0 H' ∧ LamX.Tabs Ts H')
        ⟨none, none, none, none, none, none, none, none, none, none, none, rfl, LamX.ExtN.refl _, tb0⟩ (fun i σ H' _ ⟨_, _, _, _, _, _, _, _, _, _, _, _, e, _⟩ => SqL.of (e _ _ hL0 (fun _ z => by cases z))) ?_ ?_⟩
      · rintro i y σ Hi hy ⟨v1, v2, v3, v4, v5, v6, v7, v8, v9, v10, v11, rfl, eN, tb⟩
        obtain ⟨z, rfl⟩ := int_at hy
        refine ⟨_, rfl, z, rfl, fun p H1 hp sm1 pn1 => ?_⟩
        refine ⟨_, rfl, p, rfl, pn1, fun Tr l ls up wd sh H2 kp2 nT hT hl okl hw => ?_⟩
        refine ⟨_, rfl, Tr, _, 0, _, rfl, rfl, SqT.of hT, i0, _, rfl, Tr, _, 1, _, rfl, rfl, SqT.of hT, i1, _, rfl, Tr, _, 2, _, rfl, rfl, SqT.of hT, i2, _, rfl, Tr, _, 3, _, rfl, rfl, SqT.of hT, i3, fun x dx nx ndx nex => ?_⟩
        have mk0 : Same H2 (upd (upd H2 dx (.own x)) x (.ins C dx [])) := Same.made nx ndx fun _ _ e _ => e
        refine ⟨x, dx, l, ls, up, wd, sh, rfl, upd_same, mk0 _ _ hl, okl, hw, fun H3 k3 h3 => ⟨rfl, ?_⟩⟩
        have s23 : Same H2 H3 := Same.made nx ndx k3
        have tn3 : Tn Ts C H3 p x l Tr ls up wd sh := ⟨⟨⟨dx, h3⟩, s23 _ _ hl, okl⟩, s23 _ _ hT, pen_same kp2.pen s23, (tabs_kp (tb.ext sm1) pn1 kp2).ext s23, hw⟩
        have e3 : LamX.ExtN Hi H3 := (extN_kp (extN_same sm1) hp pn1 kp2).trans (extN_same s23)
        -- the ages
        refine ⟨_, rfl, p, 301, rfl, tn3.pen, ⟨by decide, by decide⟩, fun r1 H4 a0 a1 kp4 => ?_⟩
        have tn4 := tn3.kp kp4
        have e4 := extN_kp e3 hp tn3.pen kp4
        refine ⟨_, rfl, p, 40, rfl, tn4.pen, ⟨by decide, by decide⟩, fun r2 H5 b0 b1 kp5 => ?_⟩
        have tn5 := tn4.kp kp5
        have e5 := extN_kp e4 hp tn4.pen kp5
        refine ⟨(by show 4 ≤ sizeLine; decide), fun g hg => ?_⟩
        have s5 := up2 (o := .lst [.int 0, .int 300, .int r1, .int r2]) hg
        obtain ⟨H6, eH6⟩ : ∃ G, G = upd H5 g (.lst [.int 0, .int 300, .int r1, .int r2]) := ⟨_, rfl⟩
        rw [← eH6] at s5 ⊢
        have hg6 : H6 g = some (.lst (([0, 300, r1, r2] : List Int).map V.int)) := by
          rw [eH6]
          exact upd_same
        have tn6 := tn5.same s5
        have e6 := e5.trans (extN_same s5)
        refine ⟨_, rfl, Tr, _, 0, _, rfl, rfl, SqT.of tn6.row, i0, l, rfl, ⟨_, SqT.of tn6.at_.li⟩, for_tup (K := K) (a := l) (xs := ls.map V.int) (fun i σ H' => ∃ (g' : Addr) (as : List Int) (u5 : Option V), σ = [some (.ref a), some (.int z), some (.ref p), some (.ref Tr), some (.ref g'), u5, v6, v7, v8, v9, v10, some (.ref x)] ∧ Same H6 H' ∧ H' g' = some (.lst (as.map V.int)) ∧ (∀ n ∈ as, 0 ≤ n ∧ n ≤ 300) ∧ as.length ≤ 4 + 3 * i)
          ⟨g, [0, 300, r1, r2], v5, rfl, Same.refl _, hg6, ?_, (by simp)⟩ (fun i σ H' _ ⟨_, _, _, _, sm, _⟩ => SqT.of (sm _ _ tn6.at_.li)) ?_ ?_⟩
        · intro n hn
          simp only [List.mem_cons, List.not_mem_nil, or_false] at hn
          omega
        · rintro j yb σ H7 hyb ⟨g', as, u5, rfl, sm7, hg7, has, hlen⟩
          obtain ⟨bar, hbar, rfl⟩ := get_map hyb
          have rb := okl.rng bar (List.mem_of_getElem? hbar)
          have jl := (List.getElem?_eq_some_iff.mp hbar).1
          have l4 := okl.len
          refine ⟨_, rfl, _, rfl, _, rfl, _, _, rfl, rfl, _, rfl, _, _, rfl, rfl, (by show 3 ≤ sizeLine; decide), fun g2 hg2 => ?_⟩
          have s8 := up2 (o := .lst [.int bar, .int (bar - 1), .int (bar + 1)]) hg2
          refine ⟨g', g2, _, _, rfl, rfl, s8 _ _ hg7, upd_same, ?_, fun g3 hg3 => ?_⟩
          · show (as.map V.int).length + 3 ≤ sizeLine
            refine Nat.le_of_lt (small1000 ?_)
            rw [List.length_map]
            omega
          · have s9 := up2 (o := .lst (as.map V.int ++ [.int bar, .int (bar - 1), .int (bar + 1)])) hg3
            refine ⟨g3, as ++ [bar, bar - 1, bar + 1], _, rfl, sm7.trans (s8.trans s9), ?_, ?_, ?_⟩
            · rw [upd_same, List.map_append]
              rfl
            · intro n hn
              rcases List.mem_append.mp hn with q | q
              · exact has n q
              · simp only [List.mem_cons, List.not_mem_nil, or_false] at q
                omega
            · rw [List.length_append]
              simp only [List.length_cons, List.length_nil]
              omega
        · rintro σ H7 ⟨g', as, u5, rfl, sm7, hg7, has, hlen⟩
          have tn7 := tn6.same sm7
          have e7 := e6.trans (extN_same sm7)
          refine ⟨_, rfl, g', rfl, ⟨_, SqL.of hg7⟩, for_list (K := K) (a := g') (xs := as.map V.int) (fun i σ H' => ∃ w6 w7 w8 : Option V, σ = [some (.ref a), some (.int z), some (.ref p), some (.ref Tr), some (.ref g'), u5, w6, w7, w8, v9, v10, some (.ref x)] ∧ Same H7 H')
            ⟨v6, v7, v8, rfl, Same.refl _⟩ (fun i σ H' _ ⟨_, _, _, _, sm⟩ => SqL.of (sm _ _ hg7)) ?_ ?_⟩
          · rintro i ya σ H8 hya ⟨w6, w7, w8, rfl, sm8⟩
            obtain ⟨age, hage, rfl⟩ := get_map hya
            have ra := has age (List.mem_of_getElem? hage)
            refine ⟨2, rfl, by decide, by decide, ?_⟩
            refine for_range (lo := 0) (n := 2) (fun i σ H' => ∃ w7 w8 : Option V, σ = [some (.ref a), some (.int z), some (.ref p), some (.ref Tr), some (.ref g'), u5, some (.int age), w7, w8, v9, v10, some (.ref x)] ∧ Same H7 H')
              ⟨w7, w8, rfl, sm8⟩ ?_ ?_
            · rintro j σ H9 hj ⟨w7, w8, rfl, sm9⟩
              have tn9 := tn7.same sm9
              obtain ⟨dx9, hx9⟩ := tn9.at_.ob
              refine ⟨_, rfl, x, dx9, _, rfl, hx9, f_no _ _ _ _ (by decide) (by decide) (by decide) (by decide), _, rfl, x, l, .int age, ls, up, wd, sh, rfl, tn9.at_, .int age, fun ag eag a0 a1 Ha q smq nq hq => ?_, fun e => ?_⟩
              · injection eag with eag
                subst eag
                have s10 := smq
                have tn10 := tn9.same s10
                refine ⟨_, rfl, ?_⟩
                obtain ⟨r1, r2, r3⟩ := ints_rep (rng_shown okl up age) (len_shown okl up age)
                refine ⟨_, .list ((clsP ls up age).map PyData.int), rfl, .lst (SqL.of hq) (dp_ints _), r1, r2, r3, ?_⟩
                refine ⟨_, rfl, _, rfl, Tr, l, ls, up, wd, sh, age, rfl, tn10.row, tn10.at_.li, okl.len, fun q2 Hb smb nq2 hq2 => ?_⟩
                rw [cls_eq okl up ra.2] at hq2
                refine ⟨_, .list ((clsP ls up age).map PyData.int), rfl, .lst (SqL.of hq2) (dp_ints _), r1, r2, r3, ?_⟩
                refine ⟨rfl, ?_⟩
                rw [same_text]
                refine ⟨false, rfl, iteF ?_⟩
                refine ⟨_, rfl, .inl ⟨rfl, _, SqL.of (smb _ _ hq)⟩, q, _, _, rfl, rfl, smb _ _ hq, ?_, ?_⟩
                · refine small1000 ?_
                  rw [List.length_map]
                  have := clsP_len okl up age
                  omega
                · exact ⟨_, _, rfl, same_upd ((sm9.trans s10).trans smb) (Same.free sm9 nq)⟩
              · have ein : numIn 0 300 (.int age) = true := by
                  show (decide (0 ≤ age) && decide (age ≤ 300)) = true
                  rw [decide_eq_true ra.1, decide_eq_true ra.2]
                  rfl
                rw [ein] at e
                cases e
            · rintro σ H9 ⟨w7, w8, rfl, sm9⟩
              exact ⟨_, _, _, rfl, sm9⟩
          · rintro σ H8 ⟨w6, w7, w8, rfl, sm8⟩
            have tn8 := tn7.same sm8
            have e8 := e7.trans (extN_same sm8)
            refine ⟨_, rfl, _, rfl, _, rfl, p, _, _, rfl, tn8.pen, fun o1 H9 kp9 th1 => ?_⟩
            have tn9 := tn8.kp kp9
            have e9 := extN_kp e8 hp tn8.pen kp9
            refine ⟨_, rfl, p, rfl, tn9.pen, fun o2 H10 kp10 th2 => ?_⟩
            have tn10 := tn9.kp kp10
            have e10 := extN_kp e9 hp tn9.pen kp10
            refine ⟨(by show 7 ≤ sizeLine; decide), fun L hL => ?_⟩
            have s11 := up2 (o := .lst [.int (-1), .int 301, .non, .bl true, .str "12", o1, o2]) hL
            obtain ⟨HL, eHL⟩ : ∃ G, G = upd H10 L (.lst [.int (-1), .int 301, .non, .bl true, .str "12", o1, o2]) := ⟨_, rfl⟩
            have hLL : HL L = some (.lst [.int (-1), .int 301, .non, .bl true, .str "12", o1, o2]) := by
              rw [eHL]
              exact upd_same
            rw [← eHL] at s11 ⊢
            have tn11 := tn10.same s11
            have e11 := e10.trans (extN_same s11)
            have ths : ∀ y ∈ ([.int (-1), .int 301, .non, .bl true, .str "12", o1, o2] : List V), Th HL y := by
              intro y hy
              simp only [List.mem_cons, List.not_mem_nil, or_false] at hy
              rcases hy with rfl | rfl | rfl | rfl | rfl | rfl | rfl
              · exact .int _
              · exact .int _
              · exact .non
              · exact .bl _
              · exact .str _
              · exact (th1.kp kp10).same s11
              · exact th2.same s11
            refine ⟨L, rfl, ⟨_, SqL.of hLL⟩, for_list (K := K) (a := L) (xs := [.int (-1), .int 301, .non, .bl true, .str "12", o1, o2]) (fun i σ H' => ∃ w9 w10 : Option V, σ = [some (.ref a), some (.int z), some (.ref p), some (.ref Tr), some (.ref g'), u5, w6, w7, w8, w9, w10, some (.ref x)] ∧ LamX.ExtN HL H' ∧ LamX.Tabs Ts H')
              ⟨v9, v10, rfl, LamX.ExtN.refl _, tn11.tab⟩ (fun i σ H' _ ⟨_, _, _, e, _⟩ => SqL.of (e _ _ hLL (fun _ z => by cases z))) ?_ ?_⟩
            · rintro j y σ Hj hy ⟨w9, w10, rfl, ej, tbj⟩
              have thy := (ths y (List.mem_of_getElem? hy)).ext ej
              have tnj := tn11.ext ej tbj
              refine ⟨_, rfl, ?_⟩
              refine ⟨y, 0, 300, rfl, thy, ?_⟩
              refine ⟨_, rfl, ite2 (fun c => ?_) (fun c => ?_)⟩
              · obtain ⟨age, rfl, a0, a1⟩ := numIn_int c
                refine ⟨_, rfl, _, rfl, Tr, l, ls, up, wd, sh, age, rfl, tnj.row, tnj.at_.li, okl.len, fun q2 Hb smb nq2 hq2 => ?_⟩
                rw [cls_eq okl up a1] at hq2
                have tnb := tnj.same smb
                refine ⟨tnb.tab, fun Hc en tbc => ?_⟩
                have tnc := tnb.ext en tbc
                obtain ⟨dxc, hxc⟩ := tnc.at_.ob
                refine ⟨_, rfl, x, dxc, _, rfl, hxc, f_no _ _ _ _ (by decide) (by decide) (by decide) (by decide), _, rfl, x, l, .int age, ls, up, wd, sh, rfl, tnc.at_, .int age, fun ag eag _ _ Hd q smd nq hq => ?_, fun e => ?_⟩
                · injection eag with eag
                  subst eag
                  refine ⟨(by show 2 ≤ sizeLine; decide), fun t ht => ?_⟩
                  have s13 := up2 (o := .tup [.str "told", .ref q]) ht
                  have hq2d := (LamX.ExtN.trans en (extN_same (smd.trans s13))) _ _ hq2 (fun _ z => by cases z)
                  refine ⟨t, _, 1, _, rfl, rfl, SqT.of upd_same, at_of (j := 1) rfl rfl, ?_⟩
                  obtain ⟨r1, r2, r3⟩ := ints_rep (rng_shown okl up age) (len_shown okl up age)
                  refine ⟨_, .list ((clsP ls up age).map PyData.int), rfl, .lst (SqL.of (s13 _ _ hq)) (dp_ints _), r1, r2, r3, ?_⟩
                  refine ⟨_, rfl, _, .list ((clsP ls up age).map PyData.int), rfl, .lst (SqL.of hq2d) (dp_ints _), r1, r2, r3, ?_⟩
                  refine ⟨rfl, ?_⟩
                  rw [same_text]
                  refine ⟨false, rfl, iteF ?_⟩
                  exact ⟨_, _, rfl, (ej.trans (extN_same smb)).trans (en.trans (extN_same (smd.trans s13))), (tbc.ext smd).ext s13⟩
                · rw [c] at e
                  cases e
              · have c' := Bool.eq_false_iff.mpr c
                refine ⟨tnj.tab, fun Hc en tbc => ?_⟩
                have tnc := tnj.ext en tbc
                obtain ⟨dxc, hxc⟩ := tnc.at_.ob
                refine ⟨_, rfl, x, dxc, _, rfl, hxc, f_no _ _ _ _ (by decide) (by decide) (by decide) (by decide), _, rfl, x, l, y, ls, up, wd, sh, rfl, tnc.at_, thy.ext en, fun ag eag a0 a1 Hd q smd nq hq => ?_, fun _ => ?_⟩
                · exfalso
                  subst eag
                  have : (decide (0 ≤ ag) && decide (ag ≤ 300)) = false := c'
                  rw [decide_eq_true a0, decide_eq_true a1] at this
                  cases this
                · refine ⟨rfl, CA, "noage", List.mem_cons_self, rfl, fun H'' sm t ht => ?_⟩
                  refine ⟨t, _, 1, _, rfl, rfl, SqT.of upd_same, at_of (j := 1) rfl rfl, ?_⟩
                  have s13 := up2 (o := .tup [.str "no", .str "noage"]) ht
                  refine ⟨_, .str (Str.ofString "noage"), rfl, .str _, rfl, by decide, noage_shown, ?_⟩
                  refine ⟨_, rfl, _, .str (Str.ofString "noage"), rfl, .str _, rfl, by decide, noage_shown, ?_⟩
                  refine ⟨rfl, ?_⟩
                  rw [same_text]
                  refine ⟨false, rfl, iteF ?_⟩
                  exact ⟨_, _, rfl, ej.trans (en.trans (extN_same (sm.trans s13))), (tbc.ext sm).ext s13⟩
            · rintro σ H12 ⟨w9, w10, rfl, e12, tb12⟩
              have tn12 := tn11.ext e12 tb12
              obtain ⟨dx12, hx12⟩ := tn12.at_.ob
              refine ⟨_, rfl, x, dx12, _, rfl, hx12, x, l, ls, up, wd, sh, rfl, tn12.at_, fun H13 s13 => ?_⟩
              have l4 := okl.len
              have tn13 := tn12.same s13
              refine ⟨_, rfl, ⟨by omega, by omega⟩, ?_⟩
              refine ⟨_, rfl, Tr, _, 0, _, rfl, rfl, SqT.of tn13.row, i0, l, _, rfl, .inr (SqT.of tn13.at_.li), ?_⟩
              refine ⟨_, _, rfl, rfl, rfl, ?_⟩
              have en : (!decide (V.int (((ls.length + 1 : Nat) : Nat) : Int) = V.int ((((ls.map V.int).length : Nat) : Int) + 1))) = false := by
                rw [List.length_map]
                simp
              refine ⟨false, by rw [en], iteF ?_⟩
              refine ⟨_, rfl, _, rfl, Tr, _, 0, _, rfl, rfl, SqT.of tn13.row, i0, _, rfl, Tr, _, 1, _, rfl, rfl, SqT.of tn13.row, i1, _, rfl, Tr, _, 2, _, rfl, rfl, SqT.of tn13.row, i2, _, rfl, Tr, _, 3, _, rfl, rfl, SqT.of tn13.row, i3, fun x2 dy nx2 ndy nexy => ?_⟩
              have mk1 : Same H13 (upd (upd H13 dy (.own x2)) x2 (.ins C dy [])) := Same.made nx2 ndy fun _ _ e _ => e
              refine ⟨x2, dy, l, ls, up, wd, sh, rfl, upd_same, mk1 _ _ tn13.at_.li, okl, hw, fun H14 k14 h14 => ⟨rfl, ?_⟩⟩
              have s14 : Same H13 H14 := Same.made nx2 ndy k14
              have tn14 := tn13.same s14
              obtain ⟨dx14, hx14⟩ := tn14.at_.ob
              refine ⟨x, x2, dx14, dy, _, _, rfl, rfl, hx14, h14, x, x2, l, l, ls, ls, up, up, wd, wd, sh, sh, rfl, tn14.at_, ⟨⟨dy, h14⟩, tn14.at_.li, okl⟩, fun _ _ _ _ => ⟨true, rfl, false, rfl, iteF ?_⟩, fun no => absurd ⟨rfl, rfl, rfl, rfl⟩ no⟩
              exact ⟨_, _, _, _, _, _, _, _, _, _, _, rfl, eN.trans ((e11.trans e12).trans (extN_same (s13.trans s14))), tn14.tab⟩
      · rintro σ Hi ⟨v1, v2, v3, v4, v5, v6, v7, v8, v9, v10, v11, rfl, eN, tb⟩
        exact back _
end
end K3
set_option Elab.async false
set_option linter.all false
set_option maxRecDepth 100000
set_option maxHeartbeats 0
namespace K3
open PySem PySem.Spec PyProof.Rows L2 Bb
/-! the head: facts by names, the run -/
def d_is_number : He.DefD := ⟨("is_number", none), "is_number", "is_number", defArgs sIsNum, defBody sIsNum, defScope sIsNum, [], []⟩
def d_is_number_from : He.DefD := ⟨("is_number_from", none), "is_number_from", "is_number_from", defArgs sFrom, defBody sFrom, defScope sFrom, [], []⟩
def d_is_wind : He.DefD := ⟨("is_wind", none), "is_wind", "is_wind", defArgs sIsWind, defBody sIsWind, defScope sIsWind, [], []⟩
def d_are_limits : He.DefD := ⟨("are_limits", none), "are_limits", "are_limits", defArgs sAre, defBody sAre, defScope sAre, [], []⟩
def d__law_cell : He.DefD := ⟨("_law_cell", none), "_law_cell", "_law_cell", defArgs sCell, defBody sCell, defScope sCell, [], []⟩
def d__law_pen : He.DefD := ⟨("_law_pen", none), "_law_pen", "_law_pen", defArgs sPen, defBody sPen, defScope sPen, [], []⟩
def d__law_draw : He.DefD := ⟨("_law_draw", none), "_law_draw", "_law_draw", defArgs sDraw, defBody sDraw, defScope sDraw, [], []⟩
def d__law_pick : He.DefD := ⟨("_law_pick", none), "_law_pick", "_law_pick", defArgs sPick, defBody sPick, defScope sPick, [], []⟩
def d__law_kind : He.DefD := ⟨("_law_kind", none), "_law_kind", "_law_kind", defArgs sKind, defBody sKind, defScope sKind, [], []⟩
def d__law_came : He.DefD := ⟨("_law_came", none), "_law_came", "_law_came", defArgs sCame, defBody sCame, defScope sCame, [], []⟩
def d__law_anything : He.DefD := ⟨("_law_anything", none), "_law_anything", "_law_anything", defArgs sAny, defBody sAny, defScope sAny, [], []⟩
def d__law_odd : He.DefD := ⟨("_law_odd", none), "_law_odd", "_law_odd", defArgs sOdd, defBody sOdd, defScope sOdd, [], []⟩
def d__law_number : He.DefD := ⟨("_law_number", none), "_law_number", "_law_number", defArgs sNum, defBody sNum, defScope sNum, [], []⟩
def d__law_terms : He.DefD := ⟨("_law_terms", none), "_law_terms", "_law_terms", defArgs sTerms, defBody sTerms, defScope sTerms, [], []⟩
def d_law : He.DefD := ⟨("law", none), "law", "law", defArgs sLaw, defBody sLaw, defScope sLaw, [], []⟩
def d__law_classes : He.DefD := ⟨("_law_classes", none), "_law_classes", "_law_classes", defArgs sClasses, defBody sClasses, defScope sClasses, [], []⟩
def d_Rules___init__ : He.DefD := ⟨("Rules", some "__init__"), "__init__", "Rules.__init__", defArgs sInit, defBody sInit, defScope sInit, [.non, .bl true, .int 20, .bl true], []⟩
def d_Rules___eq__ : He.DefD := ⟨("Rules", some "__eq__"), "__eq__", "Rules.__eq__", defArgs sEq, defBody sEq, defScope sEq, [], []⟩
def d_Rules___len__ : He.DefD := ⟨("Rules", some "__len__"), "__len__", "Rules.__len__", defArgs sLen, defBody sLen, defScope sLen, [], []⟩
def d_Rules_classes_of : He.DefD := ⟨("Rules", some "classes_of"), "classes_of", "Rules.classes_of", defArgs sCls, defBody sCls, defScope sCls, [], []⟩
def hfn : List He.DefD := ([d_is_number, d_is_number_from, d_is_wind, d_are_limits, d__law_cell, d__law_pen, d__law_draw, d__law_pick, d__law_kind, d__law_came, d__law_anything, d__law_odd, d__law_number, d__law_terms, d_law, d__law_classes, d_Rules___init__, d_Rules___eq__, d_Rules___len__, d_Rules_classes_of] : List He.DefD)
def hfa : List He.Fa := ([.glo "is_number", .glo "is_number_from", .glo "is_wind", .glo "are_limits", .glo "_law_cell", .glo "_law_pen", .glo "_law_draw", .glo "_law_pick", .glo "_law_kind", .glo "_law_came", .glo "_law_anything", .glo "_law_odd", .glo "_law_number", .glo "_law_terms", .glo "law", .glo "_law_classes", .glo "NoMark", .glo "NoWay", .glo "NoRules", .glo "NoAge"] : List He.Fa) ++ ([.glo "NoPerson", .glo "NoDay", .glo "NoDeed", .glo "NoSheet", .glo "NoWord", .glo "NoBook", .glo "NoText", .glo "NoName", .glo "ClubError", .glo "NoPlace", .glo "Rules", .free "isinstance", .free "int", .free "bool", .free "tuple", .free "list", .free "len", .free "all", .free "zip", .free "range"] : List He.Fa) ++ ([.free "enumerate", .free "sorted", .free "repr", .free "ValueError", .free "LookupError", .int "MOST_LIMITS" 4, .int "LEAST_LIMIT" 1, .int "MOST_LIMIT" 99, .int "MOST_WIND" 99, .int "MOST_AGE" 300, .cls "Rules", .noat "Rules" "limits", .noat "Rules" "up", .noat "Rules" "wind", .noat "Rules" "shares", .meth "Rules" "classes_of", .meth "Rules" "__len__", .meth "Rules" "__eq__", .mkr "Rules", .exc "NoAge"] : List He.Fa) ++ ([.exm "NoAge" "ClubError" true] : List He.Fa)
def htf : List He.Defn := [("law", none)]
def excB (K : PySem.W.Frag) (D : Addr) : Bool :=
  He.eqO (PySem.W.findIn K (.ref D) "__getattribute__") (some (some (.builtin "BaseException.__getattribute__"))) && (He.eqO (PySem.W.findIn K (.ref D) "__getattr__") (some none) && (decide (PySem.W.subIn K (.ref D) (.type "BaseException") = some true) && (PySem.W.hasDictIn K D &&
  (He.eqO (PySem.W.findIn K (.ref D) "__class__") (some (some (.builtin "object.__class__"))) && (He.eqO (PySem.W.specialIn K (.builtin "object.__class__") "__get__") (some (some (.builtin "getset_descriptor.__get__"))) && (decide (PySem.W.takesIn K (.builtin "object.__class__") = some true) && decide (PySem.W.mroIn K D (.type "object") = some true)))))))
theorem excB_ok {K : PySem.W.Frag} {D : Addr} (h : excB K D = true) : ExcC K D := by
  obtain ⟨h1, h⟩ := He.ba h
  obtain ⟨h2, h⟩ := He.ba h
  obtain ⟨h3, h⟩ := He.ba h
  obtain ⟨h4, h⟩ := He.ba h
  obtain ⟨h5, h⟩ := He.ba h
  obtain ⟨h6, h⟩ := He.ba h
  obtain ⟨h7, h8⟩ := He.ba h
  exact ⟨He.eqO_ok h1, He.eqO_ok h2, of_decide_eq_true h3, h4, He.eqO_ok h5, He.eqO_ok h6, of_decide_eq_true h7, of_decide_eq_true h8⟩
/-- the class D of errors is the j-th of the law's -/
def kdB (K : PySem.W.Frag) (D : Addr) (j : Nat) : Bool :=
  (List.range 12).all (fun i => decide (PySem.W.kitOne K (.ref D) (.ref (He.ga K (kOrd.getD i ""))) = some (decide (i = j)))) && (decide (PySem.W.kitOne K (.ref D) (.type "ValueError") = some true) && (decide (PySem.W.kitOne K (.ref D) (.type "LookupError") = some false) && excB K D))
def insB (K : PySem.W.Frag) (C : Addr) : Bool :=
  He.eqO (PySem.W.findIn K (.ref C) "__class__") (some (some (.builtin "object.__class__"))) && (He.eqO (PySem.W.specialIn K (.builtin "object.__class__") "__get__") (some (some (.builtin "getset_descriptor.__get__"))) && (decide (PySem.W.takesIn K (.builtin "object.__class__") = some true) && (decide (PySem.W.mroIn K C (.type "object") = some true) &&
  (decide (PySem.W.kitOne K (.ref C) (.ref C) = some true) && (He.eqO (PySem.W.findIn K (.ref C) "__ne__") (some (some (.builtin "object.__ne__"))) && decide (PySem.W.subIn K (.ref C) (.type "object") = some true))))))

def hex (K : PySem.W.Frag) : Bool := kdB K (He.ga K "NoAge") 3 && insB K (He.ga K "Rules")
abbrev R : PySem.W.OpenRow := PySem.W.OpenLaw.row PySem.Challenge.rw_bestsbook_k03_classes_of_ages
abbrev hk : PySem.W.Hook := He.hookX 5 hfa hfn [] htf hex
def ob (s : PySem.W.SharedT) : He.AlX := He.obsX 5 hfa hfn [] htf hex (HandSHeadRun.getT s)
theorem ob_eq (s : PySem.W.SharedT) : ob s = hk.obs s.abs := He.obsX_eq (HandSHeadRun.getT_eq s)
def loose : List Str := (["ClubError", "NoPlace", "NoMark", "NoWay", "NoRules", "NoAge", "NoPerson", "NoDay", "NoDeed", "NoSheet", "NoWord", "NoName", "NoBook", "NoText", "MOST_WIND", "is_number", "is_number_from", "is_wind", "MOST_LIMITS", "LEAST_LIMIT"] : List Str) ++ (["MOST_LIMIT", "MOST_AGE", "are_limits", "Rules", "_law_cell", "_law_pen", "_law_draw", "_law_pick", "_law_kind", "_law_came", "_law_anything", "_law_odd", "_law_number", "_law_terms", "_law_classes"] : List Str)
theorem run (w : World) : HandSHeadRun.RunEq R (PySem.W.view R.prog [39]) hk ob 6000 loose w := by
  intro os
  kernel_rfl
end K3
set_option Elab.async false
set_option linter.all false
set_option maxRecDepth 100000
set_option maxHeartbeats 0
namespace K3
open PySem PySem.Spec PyProof.Rows L2 Bb
section
variable {K : PySem.W.Frag} {h : Heap} {mg : Str → Option Value}
abbrev SD (K : PySem.W.Frag) : Prop := He.SaysD hfa hfn K
theorem z_free (X : K.In h) (G : h.Ns mainGlobals mg) (c : SD K) : Free mg := ⟨(He.free_ok X G (c.fact 31 (f := .free "isinstance") rfl)), (He.free_ok X G (c.fact 32 (f := .free "int") rfl)), (He.free_ok X G (c.fact 33 (f := .free "bool") rfl)), (He.free_ok X G (c.fact 34 (f := .free "tuple") rfl)), (He.free_ok X G (c.fact 35 (f := .free "list") rfl)), (He.free_ok X G (c.fact 36 (f := .free "len") rfl)), (He.free_ok X G (c.fact 37 (f := .free "all") rfl)), (He.free_ok X G (c.fact 38 (f := .free "zip") rfl)), (He.free_ok X G (c.fact 39 (f := .free "range") rfl)), (He.free_ok X G (c.fact 40 (f := .free "enumerate") rfl)), (He.free_ok X G (c.fact 41 (f := .free "sorted") rfl)), (He.free_ok X G (c.fact 42 (f := .free "repr") rfl)), (He.free_ok X G (c.fact 43 (f := .free "ValueError") rfl)), (He.free_ok X G (c.fact 44 (f := .free "LookupError") rfl))⟩
theorem z_cons (X : K.In h) (G : h.Ns mainGlobals mg) (c : SD K) : Cons mg := ⟨He.int_ok X G (c.fact 45 (f := .int "MOST_LIMITS" 4) rfl), He.int_ok X G (c.fact 46 (f := .int "LEAST_LIMIT" 1) rfl), He.int_ok X G (c.fact 47 (f := .int "MOST_LIMIT" 99) rfl), He.int_ok X G (c.fact 48 (f := .int "MOST_WIND" 99) rfl), He.int_ok X G (c.fact 49 (f := .int "MOST_AGE" 300) rfl)⟩
theorem z_is_number (X : K.In h) (G : h.Ns mainGlobals mg) (c : SD K) : ∃ a d, Fn K "is_number" "is_number" sIsNum a d ∧ mg "is_number" = some (.ref a) := by
  obtain ⟨fd, F⟩ := c.def_ 0 (d := d_is_number) rfl
  exact ⟨_, fd, F, (He.glo_ok X G (c.fact 0 (f := .glo "is_number") rfl))⟩
theorem z_is_number_from (X : K.In h) (G : h.Ns mainGlobals mg) (c : SD K) : ∃ a d, Fn K "is_number_from" "is_number_from" sFrom a d ∧ mg "is_number_from" = some (.ref a) := by
  obtain ⟨fd, F⟩ := c.def_ 1 (d := d_is_number_from) rfl
  exact ⟨_, fd, F, (He.glo_ok X G (c.fact 1 (f := .glo "is_number_from") rfl))⟩
theorem z_is_wind (X : K.In h) (G : h.Ns mainGlobals mg) (c : SD K) : ∃ a d, Fn K "is_wind" "is_wind" sIsWind a d ∧ mg "is_wind" = some (.ref a) := by
  obtain ⟨fd, F⟩ := c.def_ 2 (d := d_is_wind) rfl
  exact ⟨_, fd, F, (He.glo_ok X G (c.fact 2 (f := .glo "is_wind") rfl))⟩
theorem z_are_limits (X : K.In h) (G : h.Ns mainGlobals mg) (c : SD K) : ∃ a d, Fn K "are_limits" "are_limits" sAre a d ∧ mg "are_limits" = some (.ref a) := by
  obtain ⟨fd, F⟩ := c.def_ 3 (d := d_are_limits) rfl
  exact ⟨_, fd, F, (He.glo_ok X G (c.fact 3 (f := .glo "are_limits") rfl))⟩
theorem z__law_cell (X : K.In h) (G : h.Ns mainGlobals mg) (c : SD K) : ∃ a d, Fn K "_law_cell" "_law_cell" sCell a d ∧ mg "_law_cell" = some (.ref a) := by
  obtain ⟨fd, F⟩ := c.def_ 4 (d := d__law_cell) rfl
  exact ⟨_, fd, F, (He.glo_ok X G (c.fact 4 (f := .glo "_law_cell") rfl))⟩
theorem z__law_pen (X : K.In h) (G : h.Ns mainGlobals mg) (c : SD K) : ∃ a d, Fn K "_law_pen" "_law_pen" sPen a d ∧ mg "_law_pen" = some (.ref a) := by
  obtain ⟨fd, F⟩ := c.def_ 5 (d := d__law_pen) rfl
  exact ⟨_, fd, F, (He.glo_ok X G (c.fact 5 (f := .glo "_law_pen") rfl))⟩
theorem z__law_draw (X : K.In h) (G : h.Ns mainGlobals mg) (c : SD K) : ∃ a d, Fn K "_law_draw" "_law_draw" sDraw a d ∧ mg "_law_draw" = some (.ref a) := by
  obtain ⟨fd, F⟩ := c.def_ 6 (d := d__law_draw) rfl
  exact ⟨_, fd, F, (He.glo_ok X G (c.fact 6 (f := .glo "_law_draw") rfl))⟩
theorem z__law_pick (X : K.In h) (G : h.Ns mainGlobals mg) (c : SD K) : ∃ a d, Fn K "_law_pick" "_law_pick" sPick a d ∧ mg "_law_pick" = some (.ref a) := by
  obtain ⟨fd, F⟩ := c.def_ 7 (d := d__law_pick) rfl
  exact ⟨_, fd, F, (He.glo_ok X G (c.fact 7 (f := .glo "_law_pick") rfl))⟩
theorem z__law_kind (X : K.In h) (G : h.Ns mainGlobals mg) (c : SD K) : ∃ a d, Fn K "_law_kind" "_law_kind" sKind a d ∧ mg "_law_kind" = some (.ref a) := by
  obtain ⟨fd, F⟩ := c.def_ 8 (d := d__law_kind) rfl
  exact ⟨_, fd, F, (He.glo_ok X G (c.fact 8 (f := .glo "_law_kind") rfl))⟩
theorem z__law_came (X : K.In h) (G : h.Ns mainGlobals mg) (c : SD K) : ∃ a d, Fn K "_law_came" "_law_came" sCame a d ∧ mg "_law_came" = some (.ref a) := by
  obtain ⟨fd, F⟩ := c.def_ 9 (d := d__law_came) rfl
  exact ⟨_, fd, F, (He.glo_ok X G (c.fact 9 (f := .glo "_law_came") rfl))⟩
theorem z__law_anything (X : K.In h) (G : h.Ns mainGlobals mg) (c : SD K) : ∃ a d, Fn K "_law_anything" "_law_anything" sAny a d ∧ mg "_law_anything" = some (.ref a) := by
  obtain ⟨fd, F⟩ := c.def_ 10 (d := d__law_anything) rfl
  exact ⟨_, fd, F, (He.glo_ok X G (c.fact 10 (f := .glo "_law_anything") rfl))⟩
theorem z__law_odd (X : K.In h) (G : h.Ns mainGlobals mg) (c : SD K) : ∃ a d, Fn K "_law_odd" "_law_odd" sOdd a d ∧ mg "_law_odd" = some (.ref a) := by
  obtain ⟨fd, F⟩ := c.def_ 11 (d := d__law_odd) rfl
  exact ⟨_, fd, F, (He.glo_ok X G (c.fact 11 (f := .glo "_law_odd") rfl))⟩
theorem z__law_number (X : K.In h) (G : h.Ns mainGlobals mg) (c : SD K) : ∃ a d, Fn K "_law_number" "_law_number" sNum a d ∧ mg "_law_number" = some (.ref a) := by
  obtain ⟨fd, F⟩ := c.def_ 12 (d := d__law_number) rfl
  exact ⟨_, fd, F, (He.glo_ok X G (c.fact 12 (f := .glo "_law_number") rfl))⟩
theorem z__law_terms (X : K.In h) (G : h.Ns mainGlobals mg) (c : SD K) : ∃ a d, Fn K "_law_terms" "_law_terms" sTerms a d ∧ mg "_law_terms" = some (.ref a) := by
  obtain ⟨fd, F⟩ := c.def_ 13 (d := d__law_terms) rfl
  exact ⟨_, fd, F, (He.glo_ok X G (c.fact 13 (f := .glo "_law_terms") rfl))⟩
theorem z_law (X : K.In h) (G : h.Ns mainGlobals mg) (c : SD K) : ∃ a d, Fn K "law" "law" sLaw a d ∧ mg "law" = some (.ref a) := by
  obtain ⟨fd, F⟩ := c.def_ 14 (d := d_law) rfl
  exact ⟨_, fd, F, (He.glo_ok X G (c.fact 14 (f := .glo "law") rfl))⟩
theorem z__law_classes (X : K.In h) (G : h.Ns mainGlobals mg) (c : SD K) : ∃ a d, Fn K "_law_classes" "_law_classes" sClasses a d ∧ mg "_law_classes" = some (.ref a) := by
  obtain ⟨fd, F⟩ := c.def_ 15 (d := d__law_classes) rfl
  exact ⟨_, fd, F, (He.glo_ok X G (c.fact 15 (f := .glo "_law_classes") rfl))⟩
theorem z_glo (X : K.In h) (G : h.Ns mainGlobals mg) (c : SD K) : ∀ (i : Nat) (x : Str), kOrd[i]? = some x → i < 12 ∧ kOrd.getD i "" = x ∧ mg x = some (.ref (He.ga K x)) := by
  intro i x e
  match i, e with
  | 0, e => cases e; exact ⟨by decide, rfl, (He.glo_ok X G (c.fact 16 (f := .glo "NoMark") rfl))⟩
  | 1, e => cases e; exact ⟨by decide, rfl, (He.glo_ok X G (c.fact 17 (f := .glo "NoWay") rfl))⟩
  | 2, e => cases e; exact ⟨by decide, rfl, (He.glo_ok X G (c.fact 18 (f := .glo "NoRules") rfl))⟩
  | 3, e => cases e; exact ⟨by decide, rfl, (He.glo_ok X G (c.fact 19 (f := .glo "NoAge") rfl))⟩
  | 4, e => cases e; exact ⟨by decide, rfl, (He.glo_ok X G (c.fact 20 (f := .glo "NoPerson") rfl))⟩
  | 5, e => cases e; exact ⟨by decide, rfl, (He.glo_ok X G (c.fact 21 (f := .glo "NoDay") rfl))⟩
  | 6, e => cases e; exact ⟨by decide, rfl, (He.glo_ok X G (c.fact 22 (f := .glo "NoDeed") rfl))⟩
  | 7, e => cases e; exact ⟨by decide, rfl, (He.glo_ok X G (c.fact 23 (f := .glo "NoSheet") rfl))⟩
  | 8, e => cases e; exact ⟨by decide, rfl, (He.glo_ok X G (c.fact 24 (f := .glo "NoWord") rfl))⟩
  | 9, e => cases e; exact ⟨by decide, rfl, (He.glo_ok X G (c.fact 25 (f := .glo "NoBook") rfl))⟩
  | 10, e => cases e; exact ⟨by decide, rfl, (He.glo_ok X G (c.fact 26 (f := .glo "NoText") rfl))⟩
  | 11, e => cases e; exact ⟨by decide, rfl, (He.glo_ok X G (c.fact 27 (f := .glo "NoName") rfl))⟩
theorem z_kd (X : K.In h) (G : h.Ns mainGlobals mg) (c : SD K) {D : Addr} {j : Fin 12} (e : kdB K D (j : Nat) = true) : Kd K mg D j := by
  obtain ⟨h1, h⟩ := He.ba e
  obtain ⟨h2, h⟩ := He.ba h
  obtain ⟨h3, h4⟩ := He.ba h
  refine ⟨fun i x hx => ?_, of_decide_eq_true h2, of_decide_eq_true h3, excB_ok h4⟩
  obtain ⟨lt, e1, e2⟩ := z_glo X G c i x hx
  have z := of_decide_eq_true (List.all_eq_true.mp h1 i (List.mem_range.mpr lt))
  rw [e1] at z
  exact ⟨_, e2, z⟩
theorem z_hlp (X : K.In h) (G : h.Ns mainGlobals mg) (c : SD K) : Hlp K mg := ⟨z_is_number X G c, z_is_number_from X G c, z_are_limits X G c, z_is_wind X G c, z_free X G c, z_cons X G c⟩
theorem z_hl (X : K.In h) (G : h.Ns mainGlobals mg) (c : SD K) : Hl K mg := ⟨z__law_draw X G c, z__law_pick X G c, z_free X G c⟩
theorem z_all {P : Program} {w : World} (X : K.In h) (G : h.Ns mainGlobals mg) (c : SD K) : All P w K mg := ⟨z_free X G c, z_hlp X G c, z_hl X G c, z__law_cell X G c, z__law_pen X G c, z__law_terms X G c, z__law_classes X G c, z__law_odd X G c, z__law_anything X G c, z__law_number X G c, z__law_kind X G c, z__law_came X G c⟩
theorem z_own (X : K.In h) (G : h.Ns mainGlobals mg) (c : SD K) (e : hex K = true) : Own K mg (He.ga K "Rules") (He.ga K "NoAge") (He.ga K "ClubError") := by
  obtain ⟨e1, e⟩ := He.ba e
  obtain ⟨h1, h⟩ := He.ba e
  obtain ⟨h2, h⟩ := He.ba h
  obtain ⟨h3, h⟩ := He.ba h
  obtain ⟨h4, h⟩ := He.ba h
  obtain ⟨h5, h⟩ := He.ba h
  obtain ⟨h6, h7⟩ := He.ba h
  obtain ⟨f0, F0⟩ := (c.def_ 16 (d := d_Rules___init__) rfl)
  obtain ⟨f1, F1⟩ := (c.def_ 17 (d := d_Rules___eq__) rfl)
  obtain ⟨f2, F2⟩ := (c.def_ 18 (d := d_Rules___len__) rfl)
  obtain ⟨f3, F3⟩ := (c.def_ 19 (d := d_Rules_classes_of) rfl)
  obtain ⟨m1, m2, m3⟩ := He.meth_ok (c.fact 56 (f := .meth "Rules" "__len__") rfl)
  obtain ⟨n1, n2, n3⟩ := He.meth_ok (c.fact 57 (f := .meth "Rules" "__eq__") rfl)
  obtain ⟨x1, x2, x3, x4⟩ := He.exc_ok (c.fact 59 (f := .exc "NoAge") rfl)
  exact ⟨⟨He.cls_ok (c.fact 50 (f := .cls "Rules") rfl), He.noat_ok (c.fact 51 (f := .noat "Rules" "limits") rfl), He.noat_ok (c.fact 52 (f := .noat "Rules" "up") rfl), He.noat_ok (c.fact 53 (f := .noat "Rules" "wind") rfl), He.noat_ok (c.fact 54 (f := .noat "Rules" "shares") rfl), (He.glo_ok X G (c.fact 30 (f := .glo "Rules") rfl)), He.eqO_ok h1, He.eqO_ok h2, of_decide_eq_true h3, of_decide_eq_true h4, of_decide_eq_true h5⟩, ⟨_, f0, _, F0, rfl, He.mkr_ok (c.fact 58 (f := .mkr "Rules") rfl)⟩, ⟨_, f3, F3, He.meth_ok (c.fact 55 (f := .meth "Rules" "classes_of") rfl)⟩, ⟨_, f2, F2, m1, m2⟩, ⟨_, f1, F1, n1, n2⟩, He.eqO_ok h6, of_decide_eq_true h7, ⟨(He.glo_ok X G (c.fact 19 (f := .glo "NoAge") rfl)), x1, x2, x3, x4⟩, ⟨⟨3, z_kd X G c e1, rfl⟩, He.exm_ok (c.fact 60 (f := .exm "NoAge" "ClubError" true) rfl)⟩, (He.glo_ok X G (c.fact 28 (f := .glo "ClubError") rfl)), ⟨_, (He.glo_ok X G (c.fact 29 (f := .glo "NoPlace") rfl))⟩⟩

theorem z_end {w : World} {fa : Addr} (X : K.In h) (G : h.Ns mainGlobals mg) (hmg : mg ("law" : Str) = some (.ref fa)) (c : He.SaysX hfa hfn [] htf hex w h K) : LawG PySem.Challenge.rw_bestsbook_k03_classes_of_ages w K L2.CX0 7 63 "_law_script" mg fa h := by
  have d := c.t.d
  obtain ⟨a, fd, F, g⟩ := z_law X G d
  have e0 : a = fa := by
    have := g.symm.trans hmg
    injection this with this
    injection this
  have eg : a = He.ga K "law" := by
    have := g.symm.trans (He.glo_ok X G (d.fact 14 (f := .glo "law") rfl))
    injection this with this
    injection this
  obtain ⟨oc, od, dV, kV, doc, pm, an, cdv, ct, osl, rfl, lk, hcd, _, _⟩ := F.ex
  obtain ⟨cc, ec⟩ := He.codeIn_ref hcd
  have eo : He.codeOf K ("law", none) = cc := He.codeOf_eq (K := K) (p := ("law", none)) (by rw [show He.fAd K ("law", none) = He.ga K "law" from rfl, ← eg]; exact lk) ec
  subst e0
  have b := FunD.bindsA (ps := ["_law_script"]) F fun _ _ _ _ _ _ us hl => match us, hl with | [_], _ => rfl
  refine ⟨_, [He.cT K ("law", none)], spLaw K (He.cT K ("law", none)).2, ?_, ?_, ?_, fun s u => b s [u] rfl, ?_, ?_⟩
  · intro p hp
    rw [List.mem_singleton.mp hp]
    exact c.empty _ List.mem_cons_self
  · intro p hp
    rw [List.mem_singleton.mp hp]
    exact c.out _ List.mem_cons_self
  · intro p hp
    rw [List.mem_singleton.mp hp]
    exact PySem.W.codeHd_of_K X (c.hd _ List.mem_cons_self)
  · intro H a' ns hl _ ht hS
    exact ⟨a', ns, rfl, hS, hl, ht _ List.mem_cons_self, fun _ => rfl⟩
  · intro base KB NB tb
    have t0 := tb _ List.mem_cons_self
    refine ok_law F (c := cc) ec ?_ (z_all X G d) (z_own X G d c.more)
    have e3 : (He.cT K ("law", none)).1 = cc := eo
    rw [← e3]
    exact t0

end
end K3
open PySem PySem.W PySem.Calls PyProof.Rows
theorem PySem.Challenge.cw_bestsbook_k03_classes_of_ages_holds : PySem.Challenge.rw_bestsbook_k03_classes_of_ages.Holds := by
  w_on; o_law
  refine HandSHeadRun.head_any (r := OpenLaw.row PySem.Challenge.rw_bestsbook_k03_classes_of_ages) (q := view (OpenLaw.row PySem.Challenge.rw_bestsbook_k03_classes_of_ages).prog [39]) (H := K3.hk) (ob := K3.ob) (M := 6000) (loose := K3.loose) (d := HandSHeadRun.topDef (OpenLaw.row PySem.Challenge.rw_bestsbook_k03_classes_of_ages).prog 39) (kwd := []) K3.ob_eq
    (by kernel_rfl) (fun s => by kernel_rfl) K3.run (by kernel_rfl) (by kernel_rfl) (by kernel_rfl) (by rfl) (by first | assumption | decide +kernel) (by decide +kernel) ⟨rfl, rfl, rfl, rfl, rfl, by decide +kernel⟩ ?hw ?hc
  case hw => w_witness2
  case hc =>
    refine Bb.walkG (l := PySem.Challenge.rw_bestsbook_k03_classes_of_ages) (n := 63) (k := 7) (x := "_law_script") (CX := fun _ => L2.CX0) rfl (by decide) (by kernel_rfl) ⟨rfl, by decide, by decide⟩ ?F (fun _ _ _ _ _ z => z)
    intro w mg fa h Y G hmg0
    obtain ⟨K, KX, c⟩ := Y
    have hmg : mg ("law" : PySem.Str) = some (.ref fa) := by
      have e : (HandSHeadRun.topDef (OpenLaw.row PySem.Challenge.rw_bestsbook_k03_classes_of_ages).prog 39).name = ("law" : PySem.Str) := by kernel_rfl
      rw [← e]
      exact hmg0
    exact ⟨K, KX, K3.z_end KX G hmg c⟩
