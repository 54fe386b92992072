import PyProof.Rows.All
import Wide.All
import OpenK.AllK
import Wide.FinOn
import PyProof.ReprRoads
import HandS.ForMost
import HandS.Strs
import HandS.StrMore
import HandS.TupAny
import HandS.RaiseMore
import HandS.Codes
import HandS.SetFor
import KE.KDictWalk
import PyProof.Rows.SortShellAny
import HandS.Style
import HandS.DictComp
import HandS.TryOnly
import HandS.Set
import HandS.SetBool
import HandS.SortKw
import PyProof.Rows.ReprShort
import PyProof.ReprBulk
import HandS.More
import PySem.Challenge.RW_pagesatonce_k07_snapshots_and_what_is_kn
set_option Elab.async false
set_option linter.all false
set_option maxRecDepth 100000
set_option maxHeartbeats 4000000
/-! Promises of defs that are called while no repr is under way (for repr of lists and tuples). -/
namespace Pg
open PySem PySem.Spec PyProof.Rows L2

section
variable {P : Program} {w : World} {K : PySem.W.Frag} {mg : Str → Option Value} {base : Heap}

/-- the promise of a def that is only called where no repr runs -/
structure FnG (P : Program) (w : World) (K : PySem.W.Frag) (mg : Str → Option Value) (base : Heap) (k : Nat) (f : Addr) (fd : FuncData) (ps : List Str) (sp : Sp) : Prop where
  few : ∀ vs H Q E, sp vs H Q E → vs.length = ps.length
  go : ∀ (A : Around) (fr : List Env) (s : Shared) (H : Hp) (gs : Args) (us : List Value) (vs : List V) (Q : VK), A.guards = some [] → Room k A → Env0 P w K mg base A fr s H →
    BindsTo s fd gs (ps.zip us) → Vals vs us → sp vs H Q E0 → codeAny (model P w) A (.call (.ref f) gs) (CR CX0 fr P w H s Q E0) s

/-- an ordinary promise serves there too -/
theorem FnG.of {k : Nat} {f : Addr} {fd : FuncData} {ps : List Str} {sp : Sp} (F : FnOk P w K mg base CX0 k f fd ps sp) : FnG P w K mg base k f fd ps sp :=
  ⟨F.len, fun A fr s H gs us vs Q _ hr e b r h => F.run A fr s H gs us vs Q E0 hr e b r h⟩

theorem FnG.mk' {x qual : Str} {st : Stmt} {f : Addr} {fd : FuncData} {N ps : List Str} {k : Nat} {sp : Sp} (D : Fun K x qual st f fd) (S : FnScope N ps (defScope st)) (few : ∀ vs H Q E, sp vs H Q E → vs.length = ps.length)
    (body : ∀ (cd : Value) (A : Around) (fr : List Env) (s : Shared) (H : Hp) (vs : List V) (Q : VK), A.guards = some [] → Room k (A.deeper (envOfC qual (defScope st) s.heap.objs.size f cd)) → sp vs H Q E0 →
      ∃ t, PSs (cxOf CX0 P w K mg base N qual (defScope st) f cd A fr s H E0).nox (defBody st) t ∧ t { nx := fun _ H' => Q .non H', rt := Q } (start N vs) H) : FnG P w K mg base (k + 1) f fd ps sp := by
  obtain ⟨_, _, _, _, _, _, cd, _, _, rfl, at_f, rec_ok⟩ := D.ex
  constructor
  · exact few
  intro A fr s H gs us vs Q hg hr e b r h
  have inK : K.In s.heap := e.mod.kin.keeps (fun c o q => (e.bs c o q).left)
  have nl : s.heap.NoLimit := e.mod.nolimit.keeps (fun c o q => (e.bs c o q).left)
  have kinds : ∀ y ∈ ps.zip us, (defScope st).names.lookup y.1 = some .local ∨
      ((defScope st).names.lookup y.1 = some .cell ∧ ((cellsFrom (s.heap.objs.size + 1) (defScope st).names []).lookup y.1).isSome = true) := by
    intro y hy
    obtain ⟨y1, y2⟩ := y
    cases S.par y1 (List.of_mem_zip hy).left with
    | inl q => left; exact q
    | inr q => right; exact ⟨q, PySem.W.cellsFrom_some _ _ _ (Or.inl q)⟩
  apply codeAny_call_function hr.depth (inK _ _ at_f) rfl S.co S.gen rfl (PySem.W.codeRec_of inK rec_ok)
  apply b
  apply wpAny_newFunctionEnv_cells S.kind kinds
  intro env he s1 x
  subst he
  refine And.intro (nl.keeps x.toInCall.keep) (codeAny_func ?_)
  obtain ⟨t, ht, q⟩ := body cd A fr s H vs Q hg (hr.deeper _) h
  have J0 := inv_start (E := E0) (CX := CX0) S hr.hd e (few _ _ _ _ h) r x
  apply wpAny_mono (ht.nox.run [] s1 _ H _ J0 q)
  · intro fl s2 hs
    match fl, hs with
    | .ret u, hs => obtain ⟨v, _, H2, J, rv, z⟩ := hs; exact ⟨v, H2, J.os, J.bare, J.base, J.hok, rv, z⟩
    | .next, hs => obtain ⟨_, H2, J, z⟩ := hs; exact ⟨V.non, H2, J.os, J.bare, J.base, J.hok, rfl, z⟩
    | .brk, hs => obtain ⟨_, _, _, z⟩ := hs; exact z.elim
    | .cont, hs => obtain ⟨_, _, _, z⟩ := hs; exact z.elim
  · intro _ _ z
    exact z

/-- a callee by its name, with all its arguments given -/
def Cal (P : Program) (w : World) (K : PySem.W.Frag) (mg : Str → Option Value) (base : Heap) (x : Str) (k : Nat) (ps : List Str) (sp : Sp) : Prop :=
  ∃ f fd, FnOk P w K mg base CX0 k f fd ps sp ∧ Binds K fd ps [] ∧ mg x = some (.ref f) ∧ PySem.W.keepIn K (.ref f) = true
def CalG (P : Program) (w : World) (K : PySem.W.Frag) (mg : Str → Option Value) (base : Heap) (x : Str) (k : Nat) (ps : List Str) (sp : Sp) : Prop :=
  ∃ f fd, FnG P w K mg base k f fd ps sp ∧ Binds K fd ps [] ∧ mg x = some (.ref f) ∧ PySem.W.keepIn K (.ref f) = true
theorem Cal.mono {x : Str} {j k : Nat} {ps : List Str} {sp : Sp} (C : Cal P w K mg base x j ps sp) (h : j ≤ k) : Cal P w K mg base x k ps sp :=
  let ⟨f, fd, F, r⟩ := C
  ⟨f, fd, F.mono h, r⟩
end

section
variable {X : Cx} {k : Nat} {x : Str} {ps : List Str} {sp : Sp} {p pos : Pos} {e : Expr} {es : List Expr} {t : TA}

theorem pe_cal (C : Cal X.prog X.w X.K X.mg X.base x k ps sp) (hr : Room k X.A) (hg : Gl X x) (ha : PA X (e :: es) t) (hdb : (x == ("__debug__" : Str)) = false := by decide)
    (he : starEach (e :: es) X.env = (false, eval e X.env) :: starEach es X.env := by rfl) (hpl : (backTo pos (starEach es X.env)).any (·.1) = false := by rfl) :
    PE X (.Call (.Name x p) (e :: es) [] pos) (tCall sp [] E0 t) := by
  obtain ⟨_, _, F, b, g, kp⟩ := C
  exact pe_call F hr hg g kp b .nil pass0 ha hdb he hpl

theorem pe_calG (C : CalG X.prog X.w X.K X.mg X.base x k ps sp) (gd : X.A.guards = some []) (hr : Room k X.A) (hg : Gl X x) (ha : PA X (e :: es) t) (hdb : (x == ("__debug__" : Str)) = false := by decide)
    (he : starEach (e :: es) X.env = (false, eval e X.env) :: starEach es X.env := by rfl) (hpl : (backTo pos (starEach es X.env)).any (·.1) = false := by rfl) :
    PE X (.Call (.Name x p) (e :: es) [] pos) (tCall sp [] E0 t) := by
  obtain ⟨f, fd, F, b, g, kp⟩ := C
  constructor
  intro pins s σ H Q I h
  apply wpAny_Call_Name_kw (ld_glob I hg g ?_ hdb)
  apply PySem.W.callWith_K (h₀ := X.base) I.ok.mod.kin kp ?_ he hpl
  apply thn (ha.run pos pins s σ H _ I h)
  rintro us s1 ⟨vs, H1, I1, r, q⟩
  refine And.intro I1.kIn ?_
  have q' : sp (vs ++ []) H1 Q E0 := q
  rw [List.append_nil] at q'
  have n1 : us.length = ps.length := by rw [← r.length]; exact F.few _ _ _ _ q'
  have bb := b s1 us I1.kIn (by rw [List.append_nil]; exact n1)
  rw [List.append_nil] at bb
  apply wpAny_call
  apply codeAny_mono (F.go X.A X.stack s1 H1 ⟨us, []⟩ us vs Q gd hr I1.env0 bb r q')
  intro res s2 z
  match res, z with
  | .ok (.ret u), z => exact I1.after z
  | .ok .next, z => exact False.elim z
  | .ok .brk, z => exact False.elim z
  | .ok .cont, z => exact False.elim z
  | .error _, z => exact False.elim z
end

/-! ### repr of data -/
section
variable {X : Cx}
/-- repr(v): v data of any depth -/
def rRepr (K : PySem.W.Frag) : List V → Hp → VK → Prop := fun xs H Q => ∃ v d, xs = [v] ∧ Dp K H v d ∧ d.showable = true ∧ d.hasDict = false ∧ d.depth ≤ 40 ∧ d.shown.length ≤ sizeLine ∧ Q (.str d.shown) H
theorem call_reprD (gd : X.A.guards = some []) (hu : X.A.units + 64 < cLine) : CallR X (.builtin "repr") (rRepr X.K) := by
  intro pins s σ H xs us Q I r h
  obtain ⟨v, d, rfl, hd, sh, nd, dep, sz, q⟩ := h
  obtain ⟨u, rfl, ru⟩ := vals1 r
  have fin : ∀ (h' : Heap) (u : Tok) (tk : Nat), (∀ b o, s.heap.get? b = some o → h'.get? b = some o) → EP X pins σ Q (.str d.shown u) { s with heap := h', toks := tk } :=
    fun h' u tk kp => ⟨.str d.shown, H, I.kept kp, ⟨u, rfl⟩, q⟩
  obtain ⟨as, rd⟩ := Dp.reads I d v u hd ru
  cases hd with
  | lst hs ha =>
    cases ru
    exact repr_of_reads' rd sh (PyData.noDict_hsm nd) gd (by omega) (fun _ _ z => z) fin sz
  | tup hs ha =>
    cases ru
    exact repr_of_reads' rd sh (PyData.noDict_hsm nd) gd (by omega) (fun _ _ z => z) fin sz
  | non =>
    cases ru
    exact PySem.P.repr_of_none (fin _ _ _ fun _ _ z => z)
  | bl b =>
    cases ru
    exact PySem.P.repr_of_bool (by simpa only [PyData.shown] using fin s.heap _ (s.toks + 1) fun _ _ z => z)
  | int i =>
    obtain ⟨t, rfl⟩ := ru
    exact PySem.P.repr_of_int (by simpa [PyData.showable] using sh) (by simpa only [PyData.shown] using fin s.heap _ (s.toks + 1) fun _ _ z => z)
  | str z =>
    obtain ⟨t, rfl⟩ := ru
    exact PySem.P.repr_of_str (by simpa only [PyData.shown] using fin s.heap _ (s.toks + 1) fun _ _ z => z) (by simpa only [PyData.shown] using sz)
end

/-! ### the law's own entry -/
section
variable {P : Program} {w : World} {K : PySem.W.Frag} {mg mb : Str → Option Value}
/-- the state in which the law is entered: at most the script is tracked -/
structure Entry (P : Program) (w : World) (K : PySem.W.Frag) (H : Hp) (h : Heap) (a : Addr) (ns : List Int) : Prop where
  only : Only H
  seq : SqL K H a (ns.map V.int)
  held : HOk P w H h
  nope : ∀ b, b ≠ a → H b = none
  off : H a = none ∨ K.lookup a = none
theorem Entry.there {s : Shared} {a : Addr} {vs : List Value} {ns : List Int} (hk : K.In s.heap) (at_a : s.heap.get? a = some { cls := .type "list", data := .seq vs.toArray }) (hi : IntsAre vs ns) (few : ns.length ≤ sizeLine) :
    ∃ H, Entry P w K H s.heap a ns := by
  have rel := vals_ints hi
  by_cases e : ∃ o, K.lookup a = some o
  · obtain ⟨o, e⟩ := e
    obtain rfl : o = { cls := .type "list", data := .seq vs.toArray } := Option.some.inj ((hk a o e).symm.trans at_a)
    have nl : ∀ b u, (fun _ => none : Hp) b = some u → False := fun b u q => by cases q
    exact ⟨fun _ => none, fun _ => Or.inl rfl, Or.inr ⟨_, vs.toArray, _, e, rfl, rfl, rfl, by rw [List.size_toArray, hi.length]; exact few, by simpa using rel⟩, fun b u q => (nl b u q).elim, fun _ _ => rfl, Or.inl rfl⟩
  · have e' : K.lookup a = none := by
      cases q : K.lookup a with
      | none => rfl
      | some o => exact absurd ⟨o, q⟩ e
    refine ⟨fun b => if b = a then some (.frz { cls := .type "list", data := .seq vs.toArray } (.lst (ns.map V.int))) else none, ?_, Or.inl (Or.inr ⟨_, if_pos rfl⟩), ?_, fun b hb => if_neg hb, Or.inr e'⟩
    · intro b
      by_cases hb : b = a
      · right; exact ⟨_, _, if_pos hb⟩
      · left; exact if_neg hb
    · intro b u q
      by_cases hb : b = a
      · subst hb
        simp only [if_pos] at q
        cases q
        exact ⟨at_a, by rw [List.length_map]; exact few, vs, _, rel, at_a⟩
      · simp [hb] at q
theorem enter_law {k : Nat} {fa a : Addr} {fd : FuncData} {x : Str} {sp : Sp} {s : Shared} {vs : List Value} {ns : List Int}
    (hk : K.In s.heap) (hn : s.heap.Ns mainGlobals mg) (hb : s.heap.Ns builtinsNs mb) (hbb : ∀ x : Str, x ≠ "__name__" → mb x = bootBuiltins x) (nl : s.heap.NoLimit) (hg : s.gens = #[])
    (at_a : s.heap.get? a = some { cls := .type "list", data := .seq vs.toArray }) (hi : IntsAre vs ns) (few : ns.length ≤ sizeLine) (hr : Room k callerA)
    (F : ∀ base : Heap, K.In base → base.Ns mainGlobals mg → FnG P w K mg base k fa fd [x] sp) (hbind : ∀ (s : Shared) (u : Value), BindsTo s fd ⟨[u], []⟩ [(x, u)])
    (hsp : ∀ H : Hp, Only H → SqL K H a (ns.map V.int) → sp [.ref a] H (fun v _ => v = .bl true) E0) :
    codeAny (model P w) callerA (.call (.ref fa) ⟨[.ref a], []⟩) (fun r s' => r = .ok (.ret (.bool true)) ∧ OldK s.heap s'.heap ∧ s'.os = s.os ∧ AllBare s'.gens) s := by
  obtain ⟨H, En⟩ := Entry.there (P := P) (w := w) hk at_a hi few
  have out : ∀ {b : Addr} {o : Obj}, s.heap.get? b = some o → b ≠ a → (hidT s.heap H).get? b = some o := fun q hne => hidT_get q (En.nope _ hne)
  have dicts : ∀ {b : Addr} {m : Str → Option Value}, s.heap.Ns b m → (hidT s.heap H).Ns b m := by
    rintro b m ⟨o, es, ep, q, d, r⟩
    refine ⟨o, es, ep, out q ?_, d, r⟩
    rintro rfl
    rw [at_a] at q
    cases q
    cases d
  have inK : K.In (hidT s.heap H) := by
    intro b o q
    by_cases hba : b = a
    · subst hba
      rcases En.off with z | z
      · exact hidT_get (hk _ _ q) z
      · rw [z] at q; cases q
    · exact out (hk _ _ q) hba
  have modl : Mod K mg (hidT s.heap H) := {
    kin := inK
    glob := dicts hn
    blt := ⟨mb, dicts hb, hbb⟩
    nolimit := by obtain ⟨mc, z1, z2⟩ := nl; exact ⟨mc, dicts z1, z2⟩ }
  have none_in : ∀ b, b ∈ frs ([] : List Env) → False := fun b z => by
    have z' : b ∈ ([] : List Addr) := z
    cases z'
  have e0 : Env0 P w K mg (hidT s.heap H) callerA [] s H := {
    frames := rfl
    mod := modl
    bs := fun b o q => of_hidT q
    bsz := Nat.le_of_eq (hidT_size _ _)
    funs := trivial
    frf := fun b z => (none_in b z).elim
    hok := En.held
    bare := .of_eq hg }
  apply codeAny_mono ((F _ inK (dicts hn)).go callerA [] s H ⟨[.ref a], []⟩ [.ref a] [.ref a] _ rfl hr e0 (hbind s (.ref a)) (.cons rfl .nil) (hsp H En.only En.seq))
  intro r s' z
  match r, z with
  | .error _, z => exact False.elim z
  | .ok .next, z => exact False.elim z
  | .ok .brk, z => exact False.elim z
  | .ok .cont, z => exact False.elim z
  | .ok (.ret u), z =>
    obtain ⟨v, H', os, bare, un, held, rv, rfl⟩ := z
    cases rv
    refine ⟨rfl, OldK.of_keep ?_, os, bare⟩
    intro b o q
    rcases En.only b with y | ⟨ob, xs, y⟩
    · exact un.keep b o q y (none_in b) (by intro y2; cases y2)
    · have y1 := (En.held b _ y).left
      have y2 := (held b _ (un.frzs b ob _ y)).left
      rw [y1] at q
      cases q
      exact y2
end

/-- the goal that k_head leaves, from the law's promise -/
theorem walkG {l : PySem.W.OpenLaw} {n k : Nat} {q : Program} {loose : List Str} {XP : (Str → Option Value) → Heap → Prop} {YP : World → Heap → Prop} {d : DefRec} {K : Params → PySem.W.Frag} {sp : PySem.W.Frag → Sp} {x : Str}
    (hn : l.most = some n) (few : n ≤ sizeLine) (hdf : d.params.defaults = []) (hr : Room k callerA) (hY : ∀ (w : World) (h : Heap), YP w h → (K w.params).In h)
    (F : ∀ (w : World) (mg : Str → Option Value) (fa : Addr) (h : Heap), (K w.params).In h → h.Ns mainGlobals mg → mg d.name = some (.ref fa) →
      ∃ fd : FuncData, (∀ (s : Shared) (u : Value), BindsTo s fd ⟨[u], []⟩ [(x, u)]) ∧ ∀ base : Heap, (K w.params).In base → base.Ns mainGlobals mg → FnG l.prog w (K w.params) mg base k fa fd [x] (sp (K w.params)))
    (hsp : ∀ (K : PySem.W.Frag) (H : Hp) (a : Addr) (ns : List Int), ns.length ≤ n → SqL K H a (ns.map V.int) → sp K [.ref a] H (fun v _ => v = .bl true) E0) :
    PySem.W.WalkO q loose XP YP l.row.toRowW d [] (fun f vs => PySem.call f vs) := by
  apply Att.attach_call hn hdf
  intro w s0 s1 mg mb fa o pm cd doc a vs ns G Y ho hd hcd hmg hobj hints hlen hg
  obtain ⟨fd, hb, hF⟩ := F w mg fa _ (hY w _ Y) G.T.g hmg
  exact enter_law (hY w _ Y) G.T.g G.T.b G.T.builtins G.T.nolimit hg hobj hints (Nat.le_trans hlen few) hr hF hb (fun H _ hS => hsp _ H a ns hlen hS)
end Pg

/-! len(set(names)) for texts, a text times a number. -/
namespace Pg
open PySem PySem.Spec PyProof.Rows L2

/-- how many different texts there are: each counted where it stands first -/
def cntS : List Str → Nat
  | [] => 0
  | x :: r => (if x ∈ r then 0 else 1) + cntS r
theorem cntS_le : ∀ l : List Str, cntS l ≤ l.length
  | [] => Nat.le_refl 0
  | x :: r => by
    have h := cntS_le r
    show (if x ∈ r then 0 else 1) + cntS r ≤ r.length + 1
    split <;> omega
theorem cntS_full : ∀ l : List Str, cntS l = l.length ↔ l.Nodup
  | [] => by simp [cntS]
  | x :: r => by
    have h := cntS_full r
    have h1 := cntS_le r
    rw [List.nodup_cons, ← h]
    show (if x ∈ r then 0 else 1) + cntS r = r.length + 1 ↔ _
    split
    · rename_i m
      constructor
      · intro z; omega
      · intro z; exact absurd m z.1
    · rename_i m
      constructor
      · intro z; exact ⟨m, by omega⟩
      · intro z; omega
theorem cntS_snoc : ∀ (l : List Str) (x : Str), cntS (l ++ [x]) = if x ∈ l then cntS l else cntS l + 1
  | [], x => by simp [cntS]
  | y :: r, x => by
    have ih := cntS_snoc r x
    show (if y ∈ r ++ [x] then 0 else 1) + cntS (r ++ [x]) = if x ∈ y :: r then (if y ∈ r then 0 else 1) + cntS r else (if y ∈ r then 0 else 1) + cntS r + 1
    rw [ih]
    by_cases e : x = y
    · subst e
      by_cases m : x ∈ r <;> simp [m] <;> omega
    · have e' : ¬ y = x := fun z => e z.symm
      by_cases m : x ∈ r <;> by_cases m2 : y ∈ r <;> simp [m, m2, e, e'] <;> omega

section
variable {prog : Program} {w : World} {A : Around} {R : Result → Shared → Prop}
theorem setOf_moved {h h' : Heap} {S : Addr} {g : Str → Bool} {c : Nat} (z : h.SetOf (PySem.strKind prog w) S g c) (kp : ∀ o, h.get? S = some o → h'.get? S = some o) : h'.SetOf (PySem.strKind prog w) S g c := by
  obtain ⟨o, es, ep, tb, ho, more⟩ := z
  exact ⟨o, es, ep, tb, kp o ho, more⟩
/-- the loop of set.update over texts -/
theorem set_texts_loop {I : Addr} {fp wr : List Addr} {G : Array GenState → Array GenState → Prop} {n : Nat} {Pv : Nat → Value → Prop} {St : Nat → Shared → Prop}
    (W : WalksS prog w A.in1 I fp wr G n Pv St) (S : Addr) (off : S ∉ fp) (xs : List Str) (hn : n = xs.length) (room : xs.length + 1 < scanBound)
    (vals : ∀ i v, Pv i v → ∃ x t, xs[i]? = some x ∧ v = .str x t) :
    ∀ (left i : Nat) (s : Shared), i + left = n → St i s → s.heap.SetOf (PySem.strKind prog w) S (fun x => decide (x ∈ xs.take i)) (cntS (xs.take i)) →
      (∀ s', Moved (S :: wr) G s s' → s'.heap.SetOf (PySem.strKind prog w) S (fun x => decide (x ∈ xs)) (cntS xs) → R (.ok (.ret .none)) s') →
      codeAny (model prog w) A (.builtin "set.update.loop" ⟨[.ref S, .ref I], []⟩) R s := by
  have offw : S ∉ wr := fun z => off (W.sub _ z)
  have sub : ∀ b ∈ wr, b ∈ S :: wr := fun b z => List.mem_cons_of_mem _ z
  intro left
  induction left with
  | zero =>
    intro i s e st set fin
    obtain rfl : i = n := by omega
    apply codeAny_builtin PyProof.Rows.F.entry_set_update_loop
    rw [Around.under_plainId PyProof.Rows.F.plain_set_update_loop _]
    show wpAny _ A.in1 (pyNext (.ref I) >>= _) _ _ s
    apply wpAny_bind
    apply W.done s _ _ st
    intro s' mv
    have all : xs.take i = xs := List.take_of_length_le (by omega)
    rw [all] at set
    show wpAny _ A.in1 (ret Value.none) _ _ s'
    exact wpAny_pure (fin s' (mv.mono sub) (setOf_moved set fun o q => mv.heap S o offw q))
  | succ left ih =>
    intro i s e st set fin
    have lt : i < n := by omega
    apply codeAny_builtin PyProof.Rows.F.entry_set_update_loop
    rw [Around.under_plainId PyProof.Rows.F.plain_set_update_loop _]
    show wpAny _ A.in1 (pyNext (.ref I) >>= _) _ _ s
    apply wpAny_bind
    apply W.item i s _ _ lt st
    intro v s' pv' st' mv
    obtain ⟨x, t, hx, rfl⟩ := vals i v pv'
    have set' := setOf_moved set fun o q => mv.heap S o offw q
    show wpAny _ A.in1 (holding [Value.str x t] (setAdd S (.str x t)) >>= _) _ _ s'
    apply wpAny_bind
    apply wpAny_holding
    unfold setAdd
    apply wpAny_holding
    apply wpAny_bind
    apply (PySem.strKind prog w).pyHash (k := x) (strKind_is _ _ _ _)
    have cle := cntS_le (xs.take i)
    rw [List.length_take] at cle
    apply wpAny_setAddHashed_of (knd := PySem.strKind prog w) (s := { s' with toks := s'.toks + 1 }) (strKind_is _ _ _ _) rfl set' (by omega)
    intro h' but set2
    have nx : xs.take (i + 1) = xs.take i ++ [x] := by
      rw [List.take_add_one, hx]
      rfl
    have set3 : h'.SetOf (PySem.strKind prog w) S (fun y => decide (y ∈ xs.take (i + 1))) (cntS (xs.take (i + 1))) := by
      refine PyProof.Rows.SetOf_congr set2 (fun y => ?_) ?_
      · rw [nx]
        simp [List.mem_append]
      · rw [nx, cntS_snoc]
        by_cases m : x ∈ xs.take i <;> simp [m]
    apply wpAny_pure
    refine ⟨plainId_quiet PyProof.Rows.F.plain_set_update_loop _, ih (i + 1) _ (by omega) ?_ set3 ?_⟩
    · apply W.frame _ s' _ _ st' (Nat.le_succ _)
      intro b hb o q
      have : b ≠ S := fun z => off (z ▸ hb)
      rw [but.2 b this]
      exact q
    · intro s2 mv2 z
      apply fin s2 _ z
      apply Moved.trans W.gtrans _ mv2
      apply (mv.mono sub).then_heap (Nat.le_succ _)
      intro b o hb q
      have : b ≠ S := fun z => hb (z ▸ List.mem_cons_self)
      rw [but.2 b this]
      exact q
end

set_option maxHeartbeats 8000000 in
/-- set(t), t a tuple of texts -/
theorem set_of_texts {prog : Program} {w : World} {A : Around} {E : Value → Shared → Prop} {s : Shared} {l : Addr} {items : Array Value} {xs : List Str} {Q : Value → Shared → Prop}
    (hot : A.handled = none) (tup : s.heap.IsTuple l items) (are : StrsAre items.toList xs) (room : xs.length + 1 < scanBound)
    (k : ∀ (h' : Heap) (tk : Nat), h'.SetOf (PySem.strKind prog w) s.heap.objs.size (fun x => decide (x ∈ xs)) (cntS xs) → (∀ b o, s.heap.get? b = some o → h'.get? b = some o) →
      Q (.ref s.heap.objs.size) { s with heap := h', toks := tk }) : wpAny (model prog w) A (call (.type "set") [.ref l]) Q E s := by
  have size : items.size = xs.length := by
    have z := StrsAre.len_eq are
    rw [Array.length_toList] at z
    exact z.symm ▸ rfl
  obtain ⟨_, _, mro⟩ := PySem.F.called_set.mro
  have made := PySem.F.called_set.made
  have sub := PySem.F.called_set.sub
  apply wpAny_call
  apply codeAny_of_tree
  show wpAny _ _ (callAny (.type "set") _) _ _ _
  apply wpAny_pure
  refine And.intro (Code.quiet_builtin _ (by decide +kernel)) ?_
  apply codeAny_builtin PySem.F.entry_type_call
  rw [Around.under_plain (weight_type_call_type "set" [.ref l] []) rfl]
  have t1 := PySem.F.called_set.notType
  have t2 := PySem.F.called_set.canCreate
  have t3 := PySem.F.typeCall_set_1 (.ref l)
  repeat (any_goals (first | assumption | wp_step))
  apply codeAny_mono (code_set_new_1 (.ref l) (E := E) (Q₁ := fun obj s1 => ∃ led : Bool, obj = .ref s.heap.objs.size ∧ s1 = { s with heap := s.heap.push { cls := .type "set", dict := none, data := .set #[] 0 (.fresh 0 0 led) } }) fun led => ⟨led, rfl, rfl⟩)
  intro r s1 hr
  match r, hr with
  | .error _, hr => exact hr
  | .ok .next, hr => exact hr.elim
  | .ok .brk, hr => exact hr.elim
  | .ok .cont, hr => exact hr.elim
  | .ok (.ret obj), hr =>
    obtain ⟨led, rfl, rfl⟩ := hr
    let so : Obj := { cls := .type "set", dict := none, data := .set #[] 0 (.fresh 0 0 led) }
    have here : (s.heap.push so).get? s.heap.objs.size = some so := Heap.get?_push_size _ rfl
    have typ : Shared.TypeIs { s with heap := s.heap.push so } (.ref s.heap.objs.size) "set" := ⟨_, here, rfl⟩
    have i1 := PySem.F.called_set.init.lookup
    have i2 := PySem.F.called_set.init.bind (.ref s.heap.objs.size)
    repeat (any_goals (first | assumption | wp_step))
    apply codeAny_mono (codeAny_call_builtin (R := wants (fun r s2 => r = .none ∧ ∃ h' tk, s2 = { s with heap := h', toks := tk } ∧
      h'.SetOf (PySem.strKind prog w) s.heap.objs.size (fun x => decide (x ∈ xs)) (cntS xs) ∧ (∀ b o, s.heap.get? b = some o → h'.get? b = some o)) E)
      PySem.F.called_set.init.plain PySem.F.entry_set_init (check_set_init_1 typ ?_))
    · intro r2 s2 hr2
      match r2, hr2 with
      | .error _, hr2 => exact hr2
      | .ok .next, hr2 => exact hr2.elim
      | .ok .brk, hr2 => exact hr2.elim
      | .ok .cont, hr2 => exact hr2.elim
      | .ok (.ret v2), hr2 =>
        obtain ⟨rfl, h', tk, rfl, set, kp⟩ := hr2
        repeat (any_goals (first | assumption | wp_step))
        exact k _ _ set kp
    · obtain ⟨⟨oc, od, oda, osl⟩, at_l, cl, nl, dl⟩ := tup
      simp only at cl dl
      subst cl
      subst dl
      have at_l2 : (s.heap.push so).get? l = some { cls := .type "tuple", dict := od, data := .seq items nl, slots := osl } := Heap.get?_push_of_some _ at_l
      have s1 := PySem.F.sub_tuple_set
      have s2 := PySem.F.sub_tuple_frozenset
      have ne : (Value.type "tuple" == Value.type "dict") = false := by decide
      have tup2 : (s.heap.push so).IsTuple l items := ⟨_, at_l2, rfl, nl, rfl⟩
      unfold Builtin.«set.__init__» noKeywords Builtin.Frozenset.updateFrom
      generalize hPI : pyIter = PI
      wp_walk
      subst hPI
      apply wpAny_pyIter_tuple tup2
      apply wpAny_bind
      apply wpAny_runValue
      have lt : l < s.heap.objs.size := Heap.lt_size at_l
      have sz : (s.heap.push so).objs.size = s.heap.objs.size + 1 := Heap.size_push ..
      have ne1 : l ≠ (s.heap.push so).objs.size := by rw [sz]; exact Nat.ne_of_lt (Nat.lt_succ_of_lt lt)
      have off : s.heap.objs.size ∉ [(s.heap.push so).objs.size, l] := by
        rw [sz]
        intro z
        rcases List.mem_cons.mp z with z | z
        · exact Nat.ne_of_lt (Nat.lt_succ_self _) z
        · rcases List.mem_cons.mp z with z | z
          · exact Nat.ne_of_gt lt z
          · cases z
      have hot3 : A.in1.in1.in1.handled = none := by simp [hot]
      apply set_texts_loop ((Walks.tuple hot3 _ l ne1 items).toS) s.heap.objs.size off xs size room ?vals items.size 0 _ (by omega) ⟨⟨_, Heap.get?_push_size _ rfl, rfl, rfl⟩, (tup2.push _)⟩ ?s0 ?fin
      case vals =>
        intro i v hv
        have hi : i < xs.length := by rw [← size]; exact (Array.getElem?_eq_some_iff.mp hv).1
        obtain ⟨t, e⟩ := SS.strs_at are i v (by rw [Array.getElem?_toList]; exact hv)
        refine ⟨xs[i], t, List.getElem?_eq_getElem hi, ?_⟩
        rw [e, List.getD_eq_getElem?_getD, List.getElem?_eq_getElem hi]
        rfl
      case s0 =>
        have here2 : ((s.heap.push so).push { cls := .type "tuple_iterator", data := .fields #[.ref l, .int 0 0] }).get? s.heap.objs.size = some so := Heap.get?_push_of_some _ here
        exact PyProof.Rows.SetOf_congr ((PyProof.Rows.setObjOf_fresh (knd := PySem.strKind prog w) led).setOf here2 (by unfold scanBound; omega)) (fun _ => rfl) rfl
      case fin =>
        intro s' mv set
        obtain ⟨h', g', d', tk', os'⟩ := s'
        obtain rfl : g' = s.gens := mv.gens
        obtain rfl : d' = s.drawn := mv.drawn
        obtain rfl : os' = s.os := mv.os
        show wpAny _ _ _ _ _ _
        apply wpAny_pure
        show wpAny _ _ (ret Value.none) _ _ _
        apply wpAny_pure
        refine ⟨rfl, h', tk', rfl, set, ?_⟩
        intro b o q
        have lb : b < s.heap.objs.size := Heap.lt_size q
        apply mv.heap b o _ (Heap.get?_push_of_some _ (Heap.get?_push_of_some _ q))
        intro z
        rcases List.mem_cons.mp z with z | z
        · exact Nat.ne_of_lt lb z
        · rcases List.mem_cons.mp z with z | z
          · rw [sz] at z
            exact Nat.ne_of_lt (Nat.lt_succ_of_lt lb) z
          · cases z

/-- len(set(t)), t a tuple of texts -/
def tCountT (K : PySem.W.Frag) (ta : TE) : TE := fun σ H Q => ta σ H fun x H1 => ∃ (l : Addr) (xs : List Str), x = .ref l ∧ SqT K H1 l (xs.map V.str) ∧ xs.length ≤ 1000 ∧ Q (.int (cntS xs : Nat)) H1
theorem pe_countT {X : Cx} {a : Expr} {ta : TE} {p p2 q pos : Pos} (hc : X.calm = true) (hg : Gl X "len") (hm : X.mg "len" = none) (hg2 : Gl X "set") (hm2 : X.mg "set" = none) (ha : PE X a ta)
    (na : starEach [a] X.env = (false, eval a X.env) :: starEach [] X.env := by rfl) : PE X (.Call (.Name "len" p) [.Call (.Name "set" p2) [a] [] q] [] pos) (tCountT X.K ta) := by
  constructor
  intro pins s σ H Q I h
  apply Call_ (ld_blt I hg hm boot_len ?_)
  apply PyProof.Rows.callWith_builtin1 (PyProof.Rows.args_cons ?_ rfl) rfl rfl
  apply Call_ (ld_blt I hg2 hm2 boot_set ?_)
  apply PyProof.Rows.callWith_type1 (PyProof.Rows.args_cons (thn (ha.run pins s σ H _ I h) ?_) na) na rfl
  rintro v s1 ⟨x, H1, I1, r1, l, xs, rfl, ht, few, z⟩
  apply PyProof.Rows.args_nil
  cases r1
  obtain ⟨its, r, tp, _⟩ := I1.tuple ht
  apply set_of_texts (I1.ok.hd hc) tp (by simpa using strsAre_of r) (by unfold scanBound; omega)
  intro h' tk set kp
  apply PyProof.Rows.args_nil
  obtain ⟨o, es, ep, tb, ho, ex, od, _, _, _, fl, nn⟩ := set
  have I2 : Inv X pins σ H1 { s1 with heap := h', toks := tk } := I1.kept kp
  have le := cntS_le xs
  apply call_len_set ho ex od fl (by rw [nn]; omega)
  exact ⟨.int (cntS xs : Nat), H1, I2.tok _, ⟨_, by rw [nn]⟩, z⟩
end Pg

/-! Loops over texts, products of texts, what the laws' helpers promise. -/
namespace Pg
open PySem PySem.Spec PyProof.Rows L2

/-! ### loops and comprehensions over a text -/
theorem for_str {z : Str} {g : TG} {tb : TS} {D : Ends} {σ : L2.St} {H : Hp} (Pv : Nat → L2.St → Hp → Prop) (h0 : Pv 0 σ H)
    (hs : ∀ i c σ H, z.cps.toList[i]? = some c → Pv i σ H → g (.str ⟨#[c]⟩) σ H fun σ2 H2 => tb { D with nx := Pv (i + 1), ct := Pv (i + 1), bk := D.nx } σ2 H2) (hd : ∀ σ H, Pv z.length σ H → D.nx σ H) :
    ∃ W : Nat → Nat → L2.St → Hp → Prop, (∃ m, W 0 m σ H) ∧ ∀ i m σ H, W i m σ H →
      ((Its z).stop i H ∧ D.nx σ H) ∨ ((Its z).go i H ∧ ∃ N : L2.St → Hp → Prop, (∀ σ' H', N σ' H' → ∃ m', m' < m ∧ W (i + 1) m' σ' H') ∧ ∀ x H', (Its z).yld i H x H' → g x σ H' fun σ2 H2 => tb { D with nx := N, ct := N, bk := D.nx } σ2 H2) := by
  refine ⟨fun i m σ H => i + m = z.length ∧ Pv i σ H, ⟨z.length, by omega, h0⟩, ?_⟩
  rintro i m σ H ⟨e, p⟩
  by_cases lt : i < z.length
  · refine Or.inr ⟨lt, Pv (i + 1), fun σ' H' q => ⟨m - 1, by omega, by omega, q⟩, ?_⟩
    rintro x H' ⟨rfl, c, hc, rfl⟩
    exact hs i c σ _ (by rw [Array.getElem?_toList]; exact hc) p
  · obtain rfl : i = z.length := by omega
    exact Or.inl ⟨Nat.le_refl _, hd σ H p⟩
theorem lc_str {z : Str} {g : TG} {tt : TT} {te : TE} {vs : List Nat} {σ : L2.St} {H1 : Hp} {D : Addr} {Qd : Hp → Prop} (Pv : Nat → Hp → Prop) (h0 : Pv 0 (upd H1 D (.lst [])))
    (hs : ∀ i c H, z.cps.toList[i]? = some c → Pv i H → g (.str ⟨#[c]⟩) (wipe σ vs) H fun σ2 H2 => wipe σ2 vs = wipe σ vs ∧ tt σ2 H2 fun b H3 =>
      if b = true then te σ2 H3 fun y H4 => ∃ acc, H4 D = some (.lst acc) ∧ acc.length < sizeLine ∧ Pv (i + 1) (upd H4 D (.lst (acc ++ [y]))) else Pv (i + 1) H3) (hd : ∀ H, Pv z.length H → Qd H) :
    ∃ W : Nat → Nat → Hp → Prop, (∃ m, W 0 m (upd H1 D (.lst []))) ∧ ∀ i m H, W i m H →
      ((Its z).stop i H ∧ Qd H) ∨ ((Its z).go i H ∧ ∃ Nx : Hp → Prop, (∀ H', Nx H' → ∃ m', m' < m ∧ W (i + 1) m' H') ∧ ∀ x H', (Its z).yld i H x H' → g x (wipe σ vs) H' fun σ2 H2 => wipe σ2 vs = wipe σ vs ∧ tt σ2 H2 fun b H3 =>
        if b = true then te σ2 H3 fun y H4 => ∃ acc, H4 D = some (.lst acc) ∧ acc.length < sizeLine ∧ Nx (upd H4 D (.lst (acc ++ [y]))) else Nx H3) := by
  refine ⟨fun i m H => i + m = z.length ∧ Pv i H, ⟨z.length, by omega, h0⟩, ?_⟩
  rintro i m H ⟨e, p⟩
  by_cases lt : i < z.length
  · refine Or.inr ⟨lt, Pv (i + 1), fun H' q => ⟨m - 1, by omega, by omega, q⟩, ?_⟩
    rintro x H' ⟨rfl, c, hc, rfl⟩
    exact hs i c _ (by rw [Array.getElem?_toList]; exact hc) p
  · obtain rfl : i = z.length := by omega
    exact Or.inl ⟨Nat.le_refl _, hd H p⟩

/-! ### a module's number -/
theorem pe_cI {X : Cx} {x : Str} {i : Int} {pos : Pos} (hg : Gl X x) (hm : ∃ t, X.mg x = some (.int i t)) (hd : (x == ("__debug__" : Str)) = false := by decide) : PE X (.Name x pos) (tC (.int i)) := by
  obtain ⟨t, e⟩ := hm
  exact pe_glob hg e ⟨t, rfl⟩ hd

/-! ### a text times a number -/
def repS (z : Str) (n : Nat) : Str := ⟨((List.replicate n z.cps.toList).flatten).toArray⟩
theorem foldl_app : ∀ (l : List (Array Nat)) (a : Array Nat), (l.foldl (· ++ ·) a).toList = a.toList ++ (l.map Array.toList).flatten
  | [], a => by simp
  | x :: r, a => by
    rw [List.foldl_cons, foldl_app r (a ++ x)]
    simp
theorem op_mulS {X : Cx} : OpR X (binaryOp .Mult) (fun x y H Q => ∃ (z : Str) (n : Nat), x = .str z ∧ y = .int n ∧ n ≤ 1000 ∧ z.length ≤ 1000 ∧ Q (.str (repS z n)) H) := by
  intro pins s σ H x y v u Q I rx ry h
  obtain ⟨z, n, rfl, rfl, n1, z1, q⟩ := h
  obtain ⟨t, rfl⟩ := rx
  obtain ⟨t', rfl⟩ := ry
  have fin : ∀ (g : Str) (u : Tok) (k : Nat), g = repS z n → EP X pins σ Q (.str g u) { s with toks := k } := by
    rintro g u k rfl
    exact ⟨.str (repS z n), H, I.tok _, ⟨u, rfl⟩, q⟩
  have big : (z.length : Int) ≤ 1000 := by omega
  have lenz : z.length = z.cps.toList.length := by simp [Str.length]
  apply PySem.P.mul_str
  · have h1 : ¬ ((n : Int) < -(2 ^ 63 : Int)) := by omega
    have h2 : ¬ ((n : Int) ≥ 2 ^ 63) := by omega
    rw [decide_eq_false h1, decide_eq_false h2]
    rfl
  · intro n0 _
    have pos : (0 : Int) < n := by omega
    have : (1000 : Int) ≤ (2 ^ 63 - 1) / n := (Int.le_ediv_iff_mul_le pos).mpr (by have : (n : Int) ≤ 1000 := by omega
                                                                                   omega)
    omega
  · intro n0 _
    have h2 : z.length * n ≤ 1000 * 1000 := Nat.mul_le_mul z1 n1
    have hl : sizeLine = 16777216 := sizeLine_eq
    show decide (z.length * ((n : Int)).toNat > sizeLine) = false
    rw [Int.toNat_natCast, hl]
    exact decide_eq_false (by omega)
  · by_cases h0 : (n : Int) < 1
    · rw [if_pos h0]
      have e : n = 0 := by omega
      subst e
      exact ⟨by decide, fin _ _ _ (Str.ext' (by simp [repS, Str.empty]))⟩
    · rw [if_neg h0]
      by_cases h1 : ((n : Int) == 1 || z.length == 0) = true
      · rw [if_pos h1]
        rcases Bool.or_eq_true_iff.mp h1 with e | e
        · have e1 : n = 1 := by have := eq_of_beq e; omega
          subst e1
          refine fin z t s.toks (Str.ext' ?_)
          simp [repS]
        · have e1 : z.cps.toList = [] := List.eq_nil_of_length_eq_zero (by rw [← lenz]; exact eq_of_beq e)
          refine fin z t s.toks (Str.ext' ?_)
          apply Array.toList_inj.mp
          rw [e1]
          simp [repS, e1]
      · rw [if_neg h1]
        have eq : (⟨(List.replicate ((n : Int)).toNat z.cps).foldl (· ++ ·) #[]⟩ : Str) = repS z n := by
          apply Str.ext'
          apply Array.toList_inj.mp
          rw [foldl_app, Int.toNat_natCast]
          simp [repS]
        rw [eq]
        refine ⟨?_, fin _ _ _ rfl⟩
        have hl : sizeLine = 16777216 := sizeLine_eq
        have : (repS z n).length = n * z.length := by simp [repS, Str.length]
        rw [this, hl]
        have h2 : n * z.length ≤ 1000 * 1000 := Nat.mul_le_mul n1 z1
        omega
end Pg
namespace Pg
open PySem PySem.Spec PyProof.Rows L2
/-- within a comprehension: the written part is the def's own -/
theorem ix_listK {X : Cx} {K : PySem.W.Frag} (h : X.K = K) : IxR X (rIxL K) := h ▸ ix_list
theorem ix_tupK {X : Cx} {K : PySem.W.Frag} (h : X.K = K) : IxR X (rIxT K) := h ▸ ix_tup
end Pg

/-! A walk over the items of a written dict of the module. -/
namespace Pg
open PySem PySem.Spec PyProof.Rows L2

/-- the entries of a written dict, as values -/
def Entries (es : Array DictEntry) (kvs : List (V × V)) : Prop := kvs.length = es.size ∧ ∀ (i : Nat) (hi : i < es.size), ∃ k v, kvs[i]? = some (k, v) ∧ RelV k es[i].key ∧ RelV v es[i].val
theorem entries3 {e0 e1 e2 : DictEntry} {k0 v0 k1 v1 k2 v2 : V} (a0 : RelV k0 e0.key) (b0 : RelV v0 e0.val) (a1 : RelV k1 e1.key) (b1 : RelV v1 e1.val) (a2 : RelV k2 e2.key) (b2 : RelV v2 e2.val) :
    Entries #[e0, e1, e2] [(k0, v0), (k1, v1), (k2, v2)] :=
  ⟨rfl, fun i hi => match i, hi with
    | 0, _ => ⟨_, _, rfl, a0, b0⟩
    | 1, _ => ⟨_, _, rfl, a1, b1⟩
    | 2, _ => ⟨_, _, rfl, a2, b2⟩
    | n + 3, hi => absurd hi (by show ¬ (n + 3 < 3); omega)⟩
/-- its items, each a new tuple -/
def ItW (kvs : List (V × V)) : It :=
  ⟨fun i _ => i < kvs.length, fun i H x H' => ∃ T k v, kvs[i]? = some (k, v) ∧ x = .ref T ∧ H T = none ∧ H' = upd H T (.tup [k, v]), fun i _ => kvs.length ≤ i⟩
theorem raw_of {K : PySem.W.Frag} {h : Heap} {d : Addr} {es : Array DictEntry} {n : Nat} (inK : K.In h) (e : K.lookup d = some ⟨.type "dict", none, .dict es n, #[]⟩) : h.DictRaw d es n :=
  ⟨_, inK _ _ e, ⟨rfl, rfl, rfl⟩, rfl⟩
theorem turn_itemsW {P : Program} {w : World} {K : PySem.W.Frag} {d : Addr} {es : Array DictEntry} {n : Nat} {kvs : List (V × V)} {elts : List Expr} {kk : Nat} {tpos : Pos} (it : Addr)
    (at_d : K.lookup d = some ⟨.type "dict", none, .dict es n, #[]⟩) (en : Entries es kvs) : Turn P w K (.Tuple elts kk tpos) (ItW kvs) [it] it (fun i h => ∃ ok ov, IsItemIter h it d i es.size n ok ov) := by
  constructor
  case mem => simp
  case obj =>
    rintro i h ⟨ok, ov, e⟩ b hb
    obtain rfl : b = it := by simpa using hb
    exact ⟨_, e, fun v z => nomatch z⟩
  case keep =>
    rintro i h h' ⟨ok, ov, e⟩ k
    exact ⟨ok, ov, k it (by simp) _ e⟩
  case item =>
    intro X hP hw hK hc i pins s σ H E I hf st hg
    subst hP hw hK
    obtain ⟨ok, ov, he⟩ := st
    have lt : it < s.heap.objs.size := Heap.lt_size he
    have hi : i < es.size := by rw [← en.1]; exact hg
    obtain ⟨k, v, hkv, rk, rv⟩ := en.2 i hi
    apply wpAny_pyNext_items_item_raw he (raw_of I.kIn at_d) hi
    intro h' out here size kp
    refine ⟨_, rfl, ?_⟩
    apply wpAny_letOwnedTupleGo_items (s := { s with heap := h' }) out
    intro h2 back but
    have here2 : h2.get? s.heap.objs.size = some { cls := .type "tuple", data := .seq #[es[i].key, es[i].val] } := (but.2 _ (Nat.ne_of_gt lt)).trans here
    have fresh : H s.heap.objs.size = none := I.hok.fresh (Nat.le_refl _)
    have new : ObjOk X.prog X.w (upd H s.heap.objs.size (.tup [k, v])) h2 s.heap.objs.size (.tup [k, v]) :=
      ⟨by show 2 ≤ sizeLine; decide, [es[i].key, es[i].val], .cons rk (.cons rv .nil), ⟨_, here2, rfl, _, rfl⟩⟩
    have J := I.turnedNew (t' := s.toks) (h' := h2) (ch := [it]) (fun b o hb e => (but.2 b (by simpa using hb)).trans (kp b o (by simpa using hb) e)) hf (Nat.le_refl _) new
    refine ⟨.ref s.heap.objs.size, _, J, rfl, ⟨_, k, v, hkv, rfl, fresh, rfl⟩, ⟨_, _, back⟩, ?_⟩
    intro b hb
    obtain rfl : b = it := by simpa using hb
    rw [upd_ne (Nat.ne_of_lt lt)]
    exact (hf b (by simp)).1
  case done =>
    intro X hP hw hK hc i pins s σ H E I hf st hg
    subst hP hw hK
    obtain ⟨ok, ov, he⟩ := st
    obtain ⟨f0, f1, f2, f3, f4, f5⟩ := hf it (by simp)
    apply wpAny_pyNext_items_end_raw (I.ok.hd hc) he (raw_of I.kIn at_d) (by rw [← en.1]; exact hg)
    intro h' eb
    exact ⟨rfl, I.turned (t' := s.toks) (fun b o hb e => eb b o hb e) f0 f1 f3 f4 f5⟩
  case self =>
    rintro A i s Q E ⟨_, _, e⟩ h
    exact PySem.W.kcp_self e h
/-- for .. in d.items(), d a written dict of the module -/
def iItemsW (K : PySem.W.Frag) (td : TE) : TI := fun σ H R => td σ H fun x H1 => ∃ d es n kvs, x = .ref d ∧ K.lookup d = some ⟨.type "dict", none, .dict es n, #[]⟩ ∧ Entries es kvs ∧ (d == sysModules) = false ∧ R (ItW kvs) H1
theorem pi_itemsW {X : Cx} {e : Expr} {td : TE} {apos cpos : Pos} {elts : List Expr} {kk : Nat} {tpos : Pos} (he : PE X e td) (hbase : attributeBase e "items" X.env (eval e X.env) = eval e X.env := by rfl)
    (hline : (apos.endLine == cpos.line) = true := by rfl) : PI X (.Tuple elts kk tpos) (.Call (.Attribute e "items" apos) [] [] cpos) (iItemsW X.K td) := by
  constructor
  intro pins s σ H R I h
  apply wpAny_Call_method (T := "dict") (id := "dict.items") hbase rfl hline F.plainAttrs_dict F.slot_dict_items F.type_dict_items
  apply thn (he.run pins s σ H _ I h)
  rintro u s1 ⟨x, H1, I1, rx, d, es, n, kvs, rfl, at_d, en, low, q⟩
  obtain rfl : u = Value.ref d := rx
  have raw := raw_of I1.kIn at_d
  refine ⟨raw.typeIs, fun a z => ?_, ?_⟩
  · cases z
    exact ⟨_, I1.kIn _ _ at_d, rfl⟩
  have I2 : Inv X pins σ H1 { s1 with heap := s1.heap.push { cls := .type "dict_items", data := .fields #[.ref d] } } := I1.kept (t' := s1.toks) fun b o z => Heap.get?_push_of_some _ z
  have fin : wpAny (model X.prog X.w) X.A (pyIter (.ref s1.heap.objs.size)) (PIE X pins σ (.Tuple elts kk tpos) R) X.xe { s1 with heap := s1.heap.push { cls := .type "dict_items", data := .fields #[.ref d] } } :=
    wpAny_pyIter_items_raw (d := d) ⟨_, Heap.get?_push_size _ rfl, rfl, rfl⟩ (raw_of I2.kIn at_d)
      (pi_one (tk := s1.toks) I2 _ (turn_itemsW _ at_d en) ⟨.none, .none, Heap.get?_push_size _ rfl⟩ q)
  show wpAny _ _ (callWith cpos (.builtin "dict.items") [.ref d] [] []) _ X.xe s1
  exact method_meetsIn F.slot_dict_items F.entry_dict_items rfl (PySem.evalArgs_none ⟨rfl, raw.typeIs, F.args_dict_items_1 _, _, meets_dict_items_raw d low, ⟨_, _, raw⟩, fin⟩)
theorem for_itemsW {kvs : List (V × V)} {g : TG} {tb : TS} {D : Ends} {σ : L2.St} {H : Hp} (Pv : Nat → L2.St → Hp → Prop) (h0 : Pv 0 σ H)
    (hs : ∀ i k v σ H T, kvs[i]? = some (k, v) → Pv i σ H → H T = none → g (.ref T) σ (upd H T (.tup [k, v])) fun σ2 H2 => tb { D with nx := Pv (i + 1), ct := Pv (i + 1), bk := D.nx } σ2 H2) (hd : ∀ σ H, Pv kvs.length σ H → D.nx σ H) :
    ∃ W : Nat → Nat → L2.St → Hp → Prop, (∃ m, W 0 m σ H) ∧ ∀ i m σ H, W i m σ H →
      ((ItW kvs).stop i H ∧ D.nx σ H) ∨ ((ItW kvs).go i H ∧ ∃ N : L2.St → Hp → Prop, (∀ σ' H', N σ' H' → ∃ m', m' < m ∧ W (i + 1) m' σ' H') ∧ ∀ x H', (ItW kvs).yld i H x H' → g x σ H' fun σ2 H2 => tb { D with nx := N, ct := N, bk := D.nx } σ2 H2) := by
  refine ⟨fun i m σ H => i + m = kvs.length ∧ Pv i σ H, ⟨kvs.length, by omega, h0⟩, ?_⟩
  rintro i m σ H ⟨e, p⟩
  by_cases lt : i < kvs.length
  · refine Or.inr ⟨lt, Pv (i + 1), fun σ' H' q => ⟨m - 1, by omega, by omega, q⟩, ?_⟩
    rintro x H' ⟨T, k, v, hkv, rfl, nT, rfl⟩
    exact hs i k v σ H T hkv p nT
  · obtain rfl : i = kvs.length := by omega
    exact Or.inl ⟨Nat.le_refl _, hd σ H p⟩
end Pg

/-! Segments of a text: the mathematics. -/
namespace Pg
open PySem PySem.Spec PyProof.Rows L2

abbrev cd (z : Str) : List Nat := z.cps.toList
theorem cd_len (z : Str) : z.length = (cd z).length := by simp [Str.length]
theorem cd_inj {x y : Str} (h : cd x = cd y) : x = y := Str.ext' (Array.toList_inj.mp h)
theorem cd_app (x y : Str) : cd (x ++ y) = cd x ++ cd y := by
  show (x.cps ++ y.cps).toList = _
  rw [Array.toList_append]
/-- the signs from a to b -/
def sub (t : Str) (a b : Nat) : Str := ⟨(((cd t).drop a).take (b - a)).toArray⟩
theorem cd_sub (t : Str) (a b : Nat) : cd (sub t a b) = ((cd t).drop a).take (b - a) := rfl
theorem cut_sub (t : Str) (a b : Nat) : cutS t (some (a : Int)) (some (b : Int)) = sub t a b := by
  apply cd_inj
  unfold cutS
  rw [show HT.sIx t.length 0 (some (a : Int)) = min a t.length from HT.sIx_nat t.length 0 a, show HT.sIx t.length t.length (some (b : Int)) = min b t.length from HT.sIx_nat t.length t.length b, cd_len]
  show List.take (min b (cd t).length - min a (cd t).length) (List.drop (min a (cd t).length) (cd t)) = List.take (b - a) (List.drop a (cd t))
  by_cases h : a ≤ (cd t).length
  · rw [Nat.min_eq_left h, List.take_eq_take_iff, List.length_drop]
    omega
  · have h1 : (cd t).length ≤ a := by omega
    rw [Nat.min_eq_right h1, List.drop_of_length_le h1, List.drop_of_length_le (Nat.le_refl _), List.take_nil, List.take_nil]
theorem cut_from (t : Str) (a : Nat) : cutS t (some (a : Int)) none = sub t a t.length := by
  apply cd_inj
  unfold cutS
  rw [show HT.sIx t.length 0 (some (a : Int)) = min a t.length from HT.sIx_nat t.length 0 a, HT.sIx_none, cd_len]
  show List.take ((cd t).length - min a (cd t).length) (List.drop (min a (cd t).length) (cd t)) = List.take (t.length - a) (List.drop a (cd t))
  rw [cd_len]
  by_cases h : a ≤ (cd t).length
  · rw [Nat.min_eq_left h]
  · have h1 : (cd t).length ≤ a := by omega
    rw [Nat.min_eq_right h1, List.drop_of_length_le h1, List.drop_of_length_le (Nat.le_refl _), List.take_nil, List.take_nil]
theorem sub_len {t : Str} {a b : Nat} (h : b ≤ t.length) : (sub t a b).length = b - a := by
  rw [cd_len, cd_sub, List.length_take, List.length_drop, ← cd_len]
  omega
theorem sub_self (t : Str) (a : Nat) : sub t a a = ⟨#[]⟩ := by
  apply cd_inj
  rw [cd_sub, Nat.sub_self, List.take_zero]
theorem sub_full (t : Str) : sub t 0 t.length = t := by
  apply cd_inj
  rw [cd_sub, List.drop_zero, Nat.sub_zero, cd_len, List.take_length]
theorem sub_join {t : Str} {a b c : Nat} (h1 : a ≤ b) (h2 : b ≤ c) : sub t a b ++ sub t b c = sub t a c := by
  apply cd_inj
  rw [cd_app, cd_sub, cd_sub, cd_sub]
  have e : (cd t).drop b = ((cd t).drop a).drop (b - a) := by rw [List.drop_drop]; congr 1; omega
  rw [e]
  have e2 : c - a = (b - a) + (c - b) := by omega
  rw [e2, List.take_add]
theorem sub_one {t : Str} {a c : Nat} (h : (cd t)[a]? = some c) : sub t a (a + 1) = ⟨#[c]⟩ := by
  apply cd_inj
  rw [cd_sub]
  obtain ⟨lt, e⟩ := List.getElem?_eq_some_iff.mp h
  have e1 : a + 1 - a = 1 := by omega
  rw [e1, List.drop_eq_getElem_cons lt, e]
  rfl
/-- one sign there -/
theorem sub_is1 (t : Str) (a c : Nat) : sub t a (a + 1) = ⟨#[c]⟩ ↔ (cd t)[a]? = some c := by
  constructor
  · intro h
    have h2 := congrArg cd h
    rw [cd_sub, show a + 1 - a = 1 by omega] at h2
    cases e : (cd t)[a]? with
    | none =>
      rw [List.drop_of_length_le (List.getElem?_eq_none_iff.mp e)] at h2
      cases h2
    | some d =>
      obtain ⟨lt, e1⟩ := List.getElem?_eq_some_iff.mp e
      rw [List.drop_eq_getElem_cons lt, e1] at h2
      have h3 : [d] = [c] := h2
      rw [List.cons.inj h3 |>.1]
  · exact sub_one
theorem sub_is2 (t : Str) (a c d : Nat) : sub t a (a + 2) = ⟨#[c, d]⟩ ↔ (cd t)[a]? = some c ∧ (cd t)[a + 1]? = some d := by
  have j : sub t a (a + 1) ++ sub t (a + 1) (a + 2) = sub t a (a + 2) := sub_join (by omega) (by omega)
  constructor
  · intro h
    have h2 := congrArg cd h
    rw [cd_sub, show a + 2 - a = 2 by omega] at h2
    have h0 : ((cd t).drop a)[0]? = some c := by
      have : (List.take 2 ((cd t).drop a))[0]? = some c := by rw [h2]; rfl
      rw [List.getElem?_take_of_lt (by omega)] at this
      exact this
    have h1 : ((cd t).drop a)[1]? = some d := by
      have : (List.take 2 ((cd t).drop a))[1]? = some d := by rw [h2]; rfl
      rw [List.getElem?_take_of_lt (by omega)] at this
      exact this
    rw [List.getElem?_drop] at h0 h1
    exact ⟨h0, h1⟩
  · rintro ⟨h0, h1⟩
    rw [← j, sub_one h0, sub_one h1]
    rfl

/-- the first c from i on -/
def closeAt (t : Str) (c i : Nat) : Option Nat := if i + ((cd t).drop i).findIdx (· == c) < (cd t).length then some (i + ((cd t).drop i).findIdx (· == c)) else none
theorem close_some {t : Str} {c i k : Nat} (h1 : i ≤ k) (h2 : (cd t)[k]? = some c) (h3 : ∀ v, i ≤ v → v < k → (cd t)[v]? ≠ some c) : closeAt t c i = some k := by
  have hk : ((cd t).drop i)[k - i]? = some c := by rw [List.getElem?_drop]; rw [show i + (k - i) = k by omega]; exact h2
  obtain ⟨lt, e⟩ := List.getElem?_eq_some_iff.mp hk
  have lt2 : k < (cd t).length := (List.getElem?_eq_some_iff.mp h2).1
  have : ((cd t).drop i).findIdx (· == c) = k - i := by
    rw [List.findIdx_eq lt]
    refine ⟨by rw [e]; exact beq_self_eq_true c, fun j hj => ?_⟩
    have hjl : j < ((cd t).drop i).length := by omega
    rw [beq_eq_false_iff_ne]
    intro e2
    apply h3 (i + j) (by omega) (by omega)
    have h4 : ((cd t).drop i)[j]? = some c := by rw [List.getElem?_eq_getElem hjl, e2]
    rw [List.getElem?_drop] at h4
    exact h4
  unfold closeAt
  rw [this, if_pos (by omega)]
  congr 1
  omega
theorem close_is {t : Str} {c i k : Nat} (h : closeAt t c i = some k) : i ≤ k ∧ k < t.length ∧ (cd t)[k]? = some c ∧ ∀ v, i ≤ v → v < k → (cd t)[v]? ≠ some c := by
  unfold closeAt at h
  by_cases lt : i + ((cd t).drop i).findIdx (· == c) < (cd t).length
  · rw [if_pos lt] at h
    have hk2 : i + ((cd t).drop i).findIdx (· == c) = k := Option.some.inj h
    have lt3 : ((cd t).drop i).findIdx (· == c) < ((cd t).drop i).length := by rw [List.length_drop]; omega
    have e := List.findIdx_getElem (w := lt3)
    have at_k : ((cd t).drop i)[((cd t).drop i).findIdx (· == c)]? = some c := by rw [List.getElem?_eq_getElem lt3, eq_of_beq e]
    rw [List.getElem?_drop, hk2] at at_k
    refine ⟨by omega, by rw [cd_len]; omega, at_k, fun v hv1 hv2 hv3 => ?_⟩
    have hlt : v - i < ((cd t).drop i).findIdx (· == c) := by omega
    have := List.not_of_lt_findIdx hlt
    have h4 : ((cd t).drop i)[v - i]? = some c := by rw [List.getElem?_drop]; rw [show i + (v - i) = v by omega]; exact hv3
    obtain ⟨lt4, e4⟩ := List.getElem?_eq_some_iff.mp h4
    rw [e4] at this
    simp at this
  · rw [if_neg lt] at h
    cases h
theorem close_none {t : Str} {c i : Nat} (h : ∀ v, i ≤ v → (cd t)[v]? ≠ some c) : closeAt t c i = none := by
  cases e : closeAt t c i with
  | none => rfl
  | some k =>
    obtain ⟨h1, _, h2, _⟩ := close_is e
    exact absurd h2 (h k h1)
theorem close_free {t : Str} {c i : Nat} (h : closeAt t c i = none) : ∀ v, i ≤ v → (cd t)[v]? ≠ some c := by
  intro v h1 h2
  have fd : ∀ m k, k - i = m → i ≤ k → (cd t)[k]? = some c → False := by
    intro m
    induction m using Nat.strongRecOn with
    | _ m ih =>
      intro k hm hk1 hk2
      by_cases ex : ∀ v, i ≤ v → v < k → (cd t)[v]? ≠ some c
      · rw [close_some hk1 hk2 ex] at h
        cases h
      · have ⟨v, hv⟩ : ∃ v, ¬ (i ≤ v → v < k → (cd t)[v]? ≠ some c) := Classical.not_forall.mp ex
        have h1' : i ≤ v := Classical.byContradiction fun z => hv fun a => absurd a z
        have h2' : v < k := Classical.byContradiction fun z => hv fun _ b => absurd b z
        have h3' : (cd t)[v]? = some c := Classical.byContradiction fun z => hv fun _ _ => z
        exact ih (v - i) (by omega) v rfl h1' h3'
  exact fd _ v rfl h1 h2
/-- the sign at the start is another: one may begin behind it -/
theorem close_step {t : Str} {c i d : Nat} (h : (cd t)[i]? = some d) (ne : d ≠ c) : closeAt t c i = closeAt t c (i + 1) := by
  have skip : ∀ v, i ≤ v → (cd t)[v]? = some c → i + 1 ≤ v := fun v h1 h2 => by
    by_cases e : v = i
    · rw [e, h] at h2
      exact absurd (Option.some.inj h2) ne
    · omega
  cases e : closeAt t c (i + 1) with
  | none => exact close_none fun v h1 h2 => close_free e v (skip v h1 h2) h2
  | some k =>
    obtain ⟨h1, _, h2, h3⟩ := close_is e
    exact close_some (by omega) h2 fun v v1 v2 v3 => h3 v (skip v v1 v3) v2 v3
/-- str.find of one sign -/
theorem find_close (t : Str) (c i : Nat) : Txt.find3 t ⟨#[c]⟩ (i : Int) = match closeAt t c i with | some k => (k : Int) | none => -1 := by
  have fi : PySem.fromIndex t.length (i : Int) = i := by
    unfold PySem.fromIndex
    rw [if_neg (by omega)]
    omega
  have gd : ∀ v, v < t.length → ((cd t)[v]? = some c ↔ t.cps.getD v 0 = c) := by
    intro v hv
    constructor
    · intro h
      exact StrLaws.getD_of_getElem? h
    · intro h
      exact StrLaws.getElem?_of_getD hv h
  have big : ∀ v, (cd t)[v]? = some c → v < t.length := fun v h => by rw [cd_len]; exact (List.getElem?_eq_some_iff.mp h).1
  rcases StrLaws.find3_spec t c (i : Int) with ⟨h0, hn⟩ | ⟨k, h0, h1, h2, h3, h4⟩
  · rw [fi] at hn
    rw [close_none fun v hv hs => hn v hv (big v hs) ((gd v (big v hs)).mp hs), h0]
  · rw [fi] at h1 h4
    rw [close_some h1 ((gd k h2).mpr h3) fun v hv1 hv2 hs => h4 v hv1 hv2 ((gd v (big v hs)).mp hs), h0]
end Pg

/-! What splits a text. -/
namespace Pg
open PySem PySem.Spec PyProof.Rows L2
abbrev Seg := Str × Str
/-- the segment that is no text and begins at i: its kind, its name, the place behind it -/
def brk (N A : Str → Bool) (t : Str) (i : Nat) : Option (Str × Str × Nat) :=
  if (cd t)[i]? = some 91 then
    match closeAt t 93 (i + 1) with
    | some e => if N (sub t (i + 1) e) = true then some ("link", sub t (i + 1) e, e + 1) else none
    | none => none
  else if (cd t)[i]? = some 60 then
    match closeAt t 62 (i + 1) with
    | some e =>
      if (cd t)[i + 1]? = some 64 then (if (N (sub t (i + 2) e) && A (sub t (i + 2) e)) = true then some ("indirect", sub t (i + 2) e, e + 1) else none)
      else (if (N (sub t (i + 1) e) && A (sub t (i + 1) e)) = true then some ("include", sub t (i + 1) e, e + 1) else none)
    | none => none
  else none
/-- a segment's own text -/
def textOf (s : Seg) : Str := if s.1 = "text" then s.2 else if s.1 = "include" then "<" ++ s.2 ++ ">" else if s.1 = "indirect" then "<@" ++ s.2 ++ ">" else "[" ++ s.2 ++ "]"
theorem text_link (z : Str) : textOf ("link", z) = "[" ++ z ++ "]" := by
  unfold textOf
  rw [if_neg (show ¬ (("link" : Str) = "text") by decide +kernel), if_neg (show ¬ (("link" : Str) = "include") by decide +kernel), if_neg (show ¬ (("link" : Str) = "indirect") by decide +kernel)]
theorem text_ind (z : Str) : textOf ("indirect", z) = "<@" ++ z ++ ">" := by
  unfold textOf
  rw [if_neg (show ¬ (("indirect" : Str) = "text") by decide +kernel), if_neg (show ¬ (("indirect" : Str) = "include") by decide +kernel), if_pos rfl]
theorem text_inc (z : Str) : textOf ("include", z) = "<" ++ z ++ ">" := by
  unfold textOf
  rw [if_neg (show ¬ (("include" : Str) = "text") by decide +kernel), if_pos rfl]
theorem s60 : ("<" : Str) = ⟨#[60]⟩ := by decide +kernel
theorem s62 : (">" : Str) = ⟨#[62]⟩ := by decide +kernel
theorem s91 : ("[" : Str) = ⟨#[91]⟩ := by decide +kernel
theorem s93 : ("]" : Str) = ⟨#[93]⟩ := by decide +kernel
theorem s6064 : ("<@" : Str) = ⟨#[60, 64]⟩ := by decide +kernel
theorem s0 : ("" : Str) = ⟨#[]⟩ := by decide +kernel
theorem wrap1 {t : Str} {i e : Nat} {b c : Nat} (h1 : i + 1 ≤ e) (hb : (cd t)[i]? = some b) (hc : (cd t)[e]? = some c) : (⟨#[b]⟩ : Str) ++ sub t (i + 1) e ++ ⟨#[c]⟩ = sub t i (e + 1) := by
  rw [← sub_one hb, ← sub_one hc, sub_join (by omega) h1, sub_join (by omega) (by omega)]
theorem wrap2 {t : Str} {i e : Nat} {b d c : Nat} (h1 : i + 2 ≤ e) (hb : (cd t)[i]? = some b) (hd : (cd t)[i + 1]? = some d) (hc : (cd t)[e]? = some c) : (⟨#[b, d]⟩ : Str) ++ sub t (i + 2) e ++ ⟨#[c]⟩ = sub t i (e + 1) := by
  rw [← (sub_is2 t i b d).mpr ⟨hb, hd⟩, ← sub_one hc, sub_join (by omega) h1, sub_join (by omega) (by omega)]
def kinds : List Str := ["include", "indirect", "link"]
theorem kinds_no : ∀ k ∈ kinds, k ≠ "text" := by decide +kernel
theorem brk_is {N A : Str → Bool} {t k z : Str} {i e : Nat} (h : brk N A t i = some (k, z, e)) : i < e ∧ e ≤ t.length ∧ textOf (k, z) = sub t i e ∧ k ∈ kinds ∧ z.length ≤ t.length := by
  unfold brk at h
  by_cases h1 : (cd t)[i]? = some 91
  · rw [if_pos h1] at h
    split at h
    · rename_i e0 he
      obtain ⟨c1, c2, c3, _⟩ := close_is he
      split at h
      · cases h
        refine ⟨by omega, by omega, ?_, by decide +kernel, by rw [sub_len (by omega)]; omega⟩
        rw [← wrap1 c1 h1 c3, ← s91, ← s93, text_link]
      · cases h
    · cases h
  · rw [if_neg h1] at h
    by_cases h2 : (cd t)[i]? = some 60
    · rw [if_pos h2] at h
      split at h
      · rename_i e0 he
        obtain ⟨c1, c2, c3, c4⟩ := close_is he
        by_cases h3 : (cd t)[i + 1]? = some 64
        · rw [if_pos h3] at h
          split at h
          · cases h
            have c1' : i + 2 ≤ e0 := by
              by_cases e : e0 = i + 1
              · subst e
                rw [h3] at c3
                cases c3
              · omega
            refine ⟨by omega, by omega, ?_, by decide +kernel, by rw [sub_len (by omega)]; omega⟩
            rw [← wrap2 c1' h2 h3 c3, ← s6064, ← s62, text_ind]
          · cases h
        · rw [if_neg h3] at h
          split at h
          · cases h
            refine ⟨by omega, by omega, ?_, by decide +kernel, by rw [sub_len (by omega)]; omega⟩
            rw [← wrap1 c1 h2 c3, ← s60, ← s62, text_inc]
          · cases h
      · cases h
    · rw [if_neg h2] at h
      cases h
/-- plain signs as a segment, or none -/
def plain (z : Str) : List Seg := if z = ⟨#[]⟩ then [] else [("text", z)]
/-- the segments, when all before `done` is told and i is reached -/
def segs (N A : Str → Bool) (t : Str) (done i : Nat) : List Seg :=
  if i < t.length then
    match brk N A t i with
    | none => segs N A t done (i + 1)
    | some (k, z, e) => if i < e then plain (sub t done i) ++ ((k, z) :: segs N A t e e) else []
  else plain (sub t done t.length)
termination_by t.length - i
theorem segs_end {N A : Str → Bool} {t : Str} {done i : Nat} (h : ¬ i < t.length) : segs N A t done i = plain (sub t done t.length) := by
  rw [segs, if_neg h]
theorem segs_none {N A : Str → Bool} {t : Str} {done i : Nat} (h : i < t.length) (b : brk N A t i = none) : segs N A t done i = segs N A t done (i + 1) := by
  rw [segs, if_pos h, b]
theorem segs_some {N A : Str → Bool} {t k z : Str} {done i e : Nat} (h : i < t.length) (b : brk N A t i = some (k, z, e)) : segs N A t done i = plain (sub t done i) ++ ((k, z) :: segs N A t e e) := by
  rw [segs, if_pos h, b]
  simp only
  rw [if_pos (brk_is b).1]
/-- texts one behind another -/
def glue : List Str → Str
  | [] => ⟨#[]⟩
  | x :: r => x ++ glue r
theorem glue_app : ∀ a b : List Str, glue (a ++ b) = glue a ++ glue b
  | [], b => by
    apply cd_inj
    rw [cd_app]
    rfl
  | x :: a, b => by
    show x ++ glue (a ++ b) = x ++ glue a ++ glue b
    rw [glue_app a b]
    apply cd_inj
    simp only [cd_app, List.append_assoc]
theorem glue_plain (z : Str) : glue ((plain z).map textOf) = z := by
  unfold plain
  split
  · rename_i e
    rw [e]
    rfl
  · apply cd_inj
    show cd (textOf ("text", z) ++ ⟨#[]⟩) = _
    rw [cd_app]
    unfold textOf
    rw [if_pos rfl]
    simp
theorem glue_segs (N A : Str → Bool) (t : Str) : ∀ (m done i : Nat), t.length - i = m → done ≤ i → i ≤ t.length → glue ((segs N A t done i).map textOf) = sub t done t.length := by
  intro m
  induction m using Nat.strongRecOn with
  | _ m ih =>
    intro done i hm h1 h2
    by_cases lt : i < t.length
    · cases b : brk N A t i with
      | none =>
        rw [segs_none lt b]
        exact ih (t.length - (i + 1)) (by omega) done (i + 1) rfl (by omega) (by omega)
      | some r =>
        obtain ⟨k, z, e⟩ := r
        obtain ⟨b1, b2, b3, _⟩ := brk_is b
        rw [segs_some lt b, List.map_append, glue_app, glue_plain, List.map_cons]
        show sub t done i ++ (textOf (k, z) ++ glue ((segs N A t e e).map textOf)) = _
        rw [ih (t.length - e) (by omega) e e rfl (Nat.le_refl _) b2, b3, sub_join (by omega) b2, sub_join h1 (by omega)]
    · rw [segs_end lt, glue_plain]
theorem glue_all (N A : Str → Bool) (t : Str) : glue ((segs N A t 0 0).map textOf) = t := by
  rw [glue_segs N A t t.length 0 0 rfl (Nat.le_refl _) (Nat.zero_le _), sub_full]
def noText : Seg := (("text" : Str), (⟨#[]⟩ : Str))
/-- no empty text, no text beside another one -/
def okL : List Seg → Prop
  | [] => True
  | s :: r => s ≠ noText ∧ (∀ s', r.head? = some s' → ¬ (s.1 = "text" ∧ s'.1 = "text")) ∧ okL r
theorem okL_plain {z : Str} {r : List Seg} (h : okL r) (no : ∀ s, r.head? = some s → s.1 ≠ "text") : okL (plain z ++ r) := by
  unfold plain
  split
  · exact h
  · rename_i e
    exact ⟨fun q => e (Prod.mk.inj q).2, fun s' hs q => no s' hs q.2, h⟩
theorem okL_segs (N A : Str → Bool) (t : Str) : ∀ (m done i : Nat), t.length - i = m → i ≤ t.length → okL (segs N A t done i) := by
  intro m
  induction m using Nat.strongRecOn with
  | _ m ih =>
    intro done i hm h2
    by_cases lt : i < t.length
    · cases b : brk N A t i with
      | none =>
        rw [segs_none lt b]
        exact ih (t.length - (i + 1)) (by omega) done (i + 1) rfl (by omega)
      | some r =>
        obtain ⟨k, z, e⟩ := r
        obtain ⟨b1, b2, b3, b4, _⟩ := brk_is b
        have kn := kinds_no k b4
        rw [segs_some lt b]
        apply okL_plain
        · refine ⟨fun q => kn (Prod.mk.inj q).1, fun s' _ q => kn q.1, ih (t.length - e) (by omega) e e rfl b2⟩
        · intro s hs
          cases hs
          exact kn
    · rw [segs_end lt]
      have : plain (sub t done t.length) = plain (sub t done t.length) ++ [] := (List.append_nil _).symm
      rw [this]
      exact okL_plain trivial (fun s hs => by cases hs)
theorem okL_get : ∀ {l : List Seg} {i : Nat} {s : Seg}, okL l → l[i]? = some s → s ≠ noText ∧ ∀ j r, i = j + 1 → l[j]? = some r → ¬ (s.1 = "text" ∧ r.1 = "text")
  | [], _, _, _, h => by simp at h
  | x :: l, 0, s, ok, h => by
    obtain rfl : x = s := Option.some.inj h
    exact ⟨ok.1, fun j r e => by omega⟩
  | x :: l, i + 1, s, ok, h => by
    have h' : l[i]? = some s := by simpa using h
    obtain ⟨a, b⟩ := okL_get ok.2.2 h'
    refine ⟨a, fun j r e hr => ?_⟩
    obtain rfl : i = j := by omega
    cases i with
    | zero =>
      obtain rfl : x = r := by simpa using hr
      have hd : l.head? = some s := by rw [List.head?_eq_getElem?]; exact h'
      exact fun q => ok.2.1 s hd ⟨q.2, q.1⟩
    | succ i =>
      have hr' : l[i]? = some r := by simpa using hr
      exact b i r rfl hr'
theorem segs_few (N A : Str → Bool) (t : Str) : ∀ (m done i : Nat), t.length - i = m → i ≤ t.length → (segs N A t done i).length ≤ 2 * (t.length - i) + 1 := by
  intro m
  have pl : ∀ z : Str, (plain z).length ≤ 1 := fun z => by unfold plain; split <;> simp
  induction m using Nat.strongRecOn with
  | _ m ih =>
    intro done i hm h2
    by_cases lt : i < t.length
    · cases b : brk N A t i with
      | none =>
        rw [segs_none lt b]
        have := ih (t.length - (i + 1)) (by omega) done (i + 1) rfl (by omega)
        omega
      | some r =>
        obtain ⟨k, z, e⟩ := r
        obtain ⟨b1, b2, _⟩ := brk_is b
        rw [segs_some lt b, List.length_append, List.length_cons]
        have h1 := pl (sub t done i)
        have h2 := ih (t.length - e) (by omega) e e rfl b2
        omega
    · rw [segs_end lt]
      have := pl (sub t done t.length)
      omega
end Pg
namespace Pg
open PySem PySem.Spec PyProof.Rows L2
/-- one kind, tried at i -/
def tryK (N A : Str → Bool) (t : Str) (i : Nat) (k b : Str) (c : Nat) : Option (Str × Str × Nat) :=
  if sub t i (i + b.length) = b then
    match closeAt t c (i + b.length) with
    | some e => if (N (sub t (i + b.length) e) && (decide (k = "link") || A (sub t (i + b.length) e))) = true then some (k, sub t (i + b.length) e, e + 1) else none
    | none => none
  else none
theorem brk_try {N A : Str → Bool} {t : Str} {i : Nat} (hN : ∀ z, N z = true → 64 ∉ cd z) :
    brk N A t i = ((tryK N A t i "include" "<" 62).or ((tryK N A t i "indirect" "<@" 62).or (tryK N A t i "link" "[" 93))) := by
  have l1 : ("<" : Str).length = 1 := rfl
  have l2 : ("<@" : Str).length = 2 := rfl
  have l3 : ("[" : Str).length = 1 := rfl
  have k1 : decide (("include" : Str) = "link") = false := by decide +kernel
  have k2 : decide (("indirect" : Str) = "link") = false := by decide +kernel
  have k3 : decide (("link" : Str) = "link") = true := decide_eq_true rfl
  unfold brk tryK
  rw [l1, l2, l3, k1, k2, k3]
  simp only [s60, s6064, s91, sub_is1, sub_is2, Bool.false_or, Bool.true_or, Bool.and_true]
  by_cases h1 : (cd t)[i]? = some 91
  · have n60 : ¬ (cd t)[i]? = some 60 := by rw [h1]; simp
    rw [if_pos h1, if_neg n60, if_neg (fun z => n60 z.1), if_pos h1]
    rfl
  · rw [if_neg h1]
    by_cases h2 : (cd t)[i]? = some 60
    · rw [if_pos h2, if_pos h2, if_neg h1]
      by_cases h3 : (cd t)[i + 1]? = some 64
      · rw [if_pos ⟨h2, h3⟩]
        have cs : closeAt t 62 (i + 1) = closeAt t 62 (i + 2) := close_step h3 (by decide)
        rw [← cs]
        cases e : closeAt t 62 (i + 1) with
        | none => rfl
        | some k =>
          obtain ⟨c1, c2, c3, _⟩ := close_is e
          have no : N (sub t (i + 1) k) = false := by
            cases q : N (sub t (i + 1) k) with
            | false => rfl
            | true =>
              exfalso
              apply hN _ q
              have lt : i + 1 < k := by
                by_cases z : k = i + 1
                · subst z
                  rw [h3] at c3
                  cases c3
                · omega
              have : (cd (sub t (i + 1) k))[0]? = some 64 := by
                rw [cd_sub, List.getElem?_take_of_lt (by omega), List.getElem?_drop]
                exact h3
              exact List.mem_of_getElem? this
          simp only [h3, no, if_true, Bool.false_and, Bool.false_eq_true, if_false, Option.none_or, Option.or_none]
      · rw [if_neg (fun z => h3 z.2)]
        cases e : closeAt t 62 (i + 1) with
        | none => rfl
        | some k => simp only [h3, if_false, Option.or_none]
    · rw [if_neg h2, if_neg h2, if_neg (fun z => h2 z.1), if_neg h1]
      rfl
theorem segs_kinds (N A : Str → Bool) (t : Str) : ∀ (m done i : Nat), t.length - i = m → done ≤ i → i ≤ t.length → ∀ s ∈ segs N A t done i, (s.1 = "text" ∨ s.1 ∈ kinds) ∧ s.2.length ≤ t.length := by
  intro m
  have pl : ∀ a b : Nat, b ≤ t.length → ∀ s ∈ plain (sub t a b), (s.1 = "text" ∨ s.1 ∈ kinds) ∧ s.2.length ≤ t.length := by
    intro a b hb s hs
    unfold plain at hs
    split at hs
    · cases hs
    · rw [List.mem_singleton.mp hs]
      exact ⟨Or.inl rfl, by show (sub t a b).length ≤ _; rw [sub_len hb]; omega⟩
  induction m using Nat.strongRecOn with
  | _ m ih =>
    intro done i hm h1 h2 s hs
    by_cases lt : i < t.length
    · cases b : brk N A t i with
      | none =>
        rw [segs_none lt b] at hs
        exact ih (t.length - (i + 1)) (by omega) done (i + 1) rfl (by omega) (by omega) s hs
      | some r =>
        obtain ⟨k, z, e⟩ := r
        obtain ⟨b1, b2, _, b4, b5⟩ := brk_is b
        rw [segs_some lt b] at hs
        rcases List.mem_append.mp hs with h | h
        · exact pl done i h2 s h
        · rcases List.mem_cons.mp h with h | h
          · rw [h]
            exact ⟨Or.inr b4, b5⟩
          · exact ih (t.length - e) (by omega) e e rfl (Nat.le_refl _) b2 s h
    · rw [segs_end lt] at hs
      exact pl done t.length (Nat.le_refl _) s hs
end Pg
namespace Pg
open PySem PySem.Spec PyProof.Rows L2
/-- signs that there are -/
def Codes (z : Str) : Prop := ∀ c ∈ cd z, c < 1114112
theorem Codes.ok {z : Str} (h : Codes z) : PyData.strOk z = true := by
  unfold PyData.strOk
  rw [← Array.all_toList, List.all_eq_true]
  intro c hc
  exact decide_eq_true (h c hc)
theorem Codes.sub {t : Str} (h : Codes t) (a b : Nat) : Codes (sub t a b) := fun c hc => h c (List.mem_of_mem_drop (List.mem_of_mem_take hc))
theorem kinds_codes : ∀ k ∈ (("text" : Str) :: kinds), k.cps.toList.all (fun c => decide (c < 127)) = true ∧ k.length ≤ 8 := by decide +kernel
theorem kind_codes {k : Str} (h : k = "text" ∨ k ∈ kinds) : Codes k := fun c hc => by
  have m : k ∈ (("text" : Str) :: kinds) := by
    rcases h with h | h
    · rw [h]; exact List.mem_cons_self
    · exact List.mem_cons_of_mem _ h
  have := of_decide_eq_true (List.all_eq_true.mp (kinds_codes k m).1 c hc)
  omega
/-- a segment of a text: its kind, its signs -/
def Fine (t : Str) (s : Seg) : Prop := (s.1 = "text" ∨ s.1 ∈ kinds) ∧ s.2.length ≤ t.length ∧ ∀ c ∈ cd s.2, c ∈ cd t
theorem plain_fine {t : Str} {a b : Nat} (hb : b ≤ t.length) : ∀ s ∈ plain (sub t a b), Fine t s := by
  intro s hs
  unfold plain at hs
  split at hs
  · cases hs
  · rw [List.mem_singleton.mp hs]
    exact ⟨Or.inl rfl, by show (sub t a b).length ≤ _; rw [sub_len hb]; omega, fun c hc => List.mem_of_mem_drop (List.mem_of_mem_take hc)⟩
theorem brk_part {N A : Str → Bool} {t k z : Str} {i e : Nat} (h : brk N A t i = some (k, z, e)) : ∀ c ∈ cd z, c ∈ cd t := by
  have sb : ∀ a b, ∀ c ∈ cd (sub t a b), c ∈ cd t := fun a b c hc => List.mem_of_mem_drop (List.mem_of_mem_take hc)
  unfold brk at h
  repeat' split at h
  all_goals first
    | (cases h; done)
    | (cases h; exact sb _ _)
theorem segs_fine (N A : Str → Bool) (t : Str) : ∀ (m done i : Nat), t.length - i = m → done ≤ i → i ≤ t.length → ∀ s ∈ segs N A t done i, Fine t s := by
  intro m
  induction m using Nat.strongRecOn with
  | _ m ih =>
    intro done i hm h1 h2 s hs
    by_cases lt : i < t.length
    · cases b : brk N A t i with
      | none =>
        rw [segs_none lt b] at hs
        exact ih (t.length - (i + 1)) (by omega) done (i + 1) rfl (by omega) (by omega) s hs
      | some r =>
        obtain ⟨k, z, e⟩ := r
        obtain ⟨b1, b2, _, b4, b5⟩ := brk_is b
        rw [segs_some lt b] at hs
        rcases List.mem_append.mp hs with h | h
        · exact plain_fine h2 s h
        · rcases List.mem_cons.mp h with h | h
          · rw [h]
            exact ⟨Or.inr b4, b5, brk_part b⟩
          · exact ih (t.length - e) (by omega) e e rfl (Nat.le_refl _) b2 s h
    · rw [segs_end lt] at hs
      exact plain_fine (Nat.le_refl _) s hs
end Pg
namespace Pg
open PySem PySem.Spec PyProof.Rows L2
theorem brk_after {N A : Str → Bool} {t k z : Str} {i e : Nat} (h : brk N A t i = some (k, z, e)) : (k = "link" ∧ N z = true) ∨ ((k = "include" ∨ k = "indirect") ∧ N z = true ∧ A z = true) := by
  unfold brk at h
  repeat' split at h
  all_goals first
    | (cases h; done)
    | (rename_i q; cases h; exact .inl ⟨rfl, q⟩)
    | (rename_i q; cases h; obtain ⟨q1, q2⟩ := Bool.and_eq_true_iff.mp q; exact .inr ⟨.inl rfl, q1, q2⟩)
    | (rename_i q; cases h; obtain ⟨q1, q2⟩ := Bool.and_eq_true_iff.mp q; exact .inr ⟨.inr rfl, q1, q2⟩)
theorem plain_kind {z : Str} : ∀ s ∈ plain z, s.1 = "text" := by
  intro s hs
  unfold plain at hs
  split at hs
  · cases hs
  · rw [List.mem_singleton.mp hs]
theorem segs_after (N A : Str → Bool) (t : Str) : ∀ (m done i : Nat), t.length - i = m → i ≤ t.length → ∀ s ∈ segs N A t done i, s.1 = "text" ∨ (s.1 = "link" ∧ N s.2 = true) ∨ ((s.1 = "include" ∨ s.1 = "indirect") ∧ N s.2 = true ∧ A s.2 = true) := by
  intro m
  induction m using Nat.strongRecOn with
  | _ m ih =>
    intro done i hm h2 s hs
    by_cases lt : i < t.length
    · cases b : brk N A t i with
      | none =>
        rw [segs_none lt b] at hs
        exact ih (t.length - (i + 1)) (by omega) done (i + 1) rfl (by omega) s hs
      | some r =>
        obtain ⟨k, z, e⟩ := r
        obtain ⟨b1, b2, _⟩ := brk_is b
        rw [segs_some lt b] at hs
        rcases List.mem_append.mp hs with h | h
        · exact .inl (plain_kind s h)
        · rcases List.mem_cons.mp h with h | h
          · rw [h]
            exact .inr (brk_after b)
          · exact ih (t.length - e) (by omega) e e rfl b2 s h
    · rw [segs_end lt] at hs
      exact .inl (plain_kind s hs)
end Pg

/-! Dicts with texts as keys, as rows of pairs. -/
namespace Pg
open PySem PySem.Spec PyProof.Rows L2
section
variable {β : Type}
/-- the row of pairs as the dict's own -/
def enc (f : β → V) (kvs : List (Str × β)) : List (Key × V) := kvs.map fun p => (Sum.inr p.1, f p.2)
def getS : List (Str × β) → Str → Option β
  | [], _ => none
  | p :: r, k => if p.1 = k then some p.2 else getS r k
/-- in its place, or at the end -/
def putS : List (Str × β) → Str → β → List (Str × β)
  | [], k, v => [(k, v)]
  | p :: r, k, v => if p.1 = k then (p.1, v) :: r.map (fun q => if q.1 = k then (q.1, v) else q) else p :: putS r k v
theorem valV_enc (f : β → V) : ∀ (kvs : List (Str × β)) (k : Str), valV (enc f kvs) (Sum.inr k) = (getS kvs k).map f
  | [], k => rfl
  | p :: r, k => by
    by_cases e : p.1 = k
    · rw [show enc f (p :: r) = (Sum.inr p.1, f p.2) :: enc f r from rfl, valV_pos (by rw [e]), getS, if_pos e]
      rfl
    · rw [show enc f (p :: r) = (Sum.inr p.1, f p.2) :: enc f r from rfl, valV_neg (fun h => e (Sum.inr.inj h)), getS, if_neg e]
      exact valV_enc f r k
theorem any_enc (f : β → V) : ∀ (kvs : List (Str × β)) (k : Str), ((enc f kvs).any fun kv => decide (kv.1 = Sum.inr k)) = (getS kvs k).isSome
  | [], k => rfl
  | p :: r, k => by
    rw [show enc f (p :: r) = (Sum.inr p.1, f p.2) :: enc f r from rfl, List.any_cons, getS]
    by_cases e : p.1 = k
    · rw [if_pos e, decide_eq_true (by rw [e]), Bool.true_or]
      rfl
    · rw [if_neg e, decide_eq_false (fun h => e (Sum.inr.inj h)), Bool.false_or]
      exact any_enc f r k
theorem map_enc (f : β → V) (k : Str) (v : β) : ∀ kvs : List (Str × β), (enc f kvs).map (fun kv => if kv.1 = Sum.inr k then (kv.1, f v) else kv) = enc f (kvs.map fun q => if q.1 = k then (q.1, v) else q)
  | [] => rfl
  | p :: r => by
    have ih := map_enc f k v r
    show (if (Sum.inr p.1 : Key) = Sum.inr k then ((Sum.inr p.1 : Key), f v) else (Sum.inr p.1, f p.2)) :: (enc f r).map _ = (Sum.inr (if p.1 = k then (p.1, v) else p).1, f (if p.1 = k then (p.1, v) else p).2) :: enc f (r.map _)
    rw [ih]
    by_cases e : p.1 = k
    · rw [if_pos e, if_pos (by rw [e])]
    · rw [if_neg e, if_neg (fun h => e (Sum.inr.inj h))]
theorem putS_has : ∀ {kvs : List (Str × β)} {k : Str} {v : β}, (getS kvs k).isSome = true → putS kvs k v = kvs.map (fun q => if q.1 = k then (q.1, v) else q)
  | [], k, v, h => by cases h
  | p :: r, k, v, h => by
    unfold putS
    by_cases e : p.1 = k
    · rw [if_pos e, List.map_cons, if_pos e]
    · rw [getS, if_neg e] at h
      rw [if_neg e, putS_has h, List.map_cons, if_neg e]
theorem putS_new : ∀ {kvs : List (Str × β)} {k : Str} {v : β}, (getS kvs k).isSome = false → putS kvs k v = kvs ++ [(k, v)]
  | [], k, v, h => rfl
  | p :: r, k, v, h => by
    unfold putS
    by_cases e : p.1 = k
    · rw [getS, if_pos e] at h
      cases h
    · rw [getS, if_neg e] at h
      rw [if_neg e, putS_new h]
      rfl
theorem putK_enc (f : β → V) (kvs : List (Str × β)) (k : Str) (v : β) : putK (enc f kvs) (Sum.inr k) (f v) = enc f (putS kvs k v) := by
  unfold putK
  rw [any_enc]
  cases e : (getS kvs k).isSome with
  | true => rw [if_pos rfl, putS_has e, map_enc]
  | false =>
    rw [if_neg Bool.false_ne_true, putS_new e]
    unfold enc
    rw [List.map_append]
    rfl
theorem keys_put : ∀ (kvs : List (Str × β)) (k : Str) (v : β), (putS kvs k v).map (·.1) = if (getS kvs k).isSome = true then kvs.map (·.1) else kvs.map (·.1) ++ [k] := by
  intro kvs k v
  cases e : (getS kvs k).isSome with
  | true =>
    rw [if_pos rfl, putS_has e, List.map_map]
    refine List.map_congr_left fun p _ => ?_
    show (if p.1 = k then (p.1, v) else p).1 = p.1
    split <;> rfl
  | false =>
    rw [if_neg Bool.false_ne_true, putS_new e, List.map_append]
    rfl
theorem get_some : ∀ {kvs : List (Str × β)} {k : Str} {v : β}, getS kvs k = some v → (k, v) ∈ kvs
  | [], k, v, h => by cases h
  | p :: r, k, v, h => by
    rw [getS] at h
    by_cases e : p.1 = k
    · rw [if_pos e] at h
      obtain rfl := Option.some.inj h
      rw [← e]
      exact List.mem_cons_self
    · rw [if_neg e] at h
      exact List.mem_cons_of_mem _ (get_some h)
theorem get_none : ∀ {kvs : List (Str × β)} {k : Str}, getS kvs k = none ↔ k ∉ kvs.map (·.1)
  | [], k => ⟨fun _ h => (by cases h), fun _ => rfl⟩
  | p :: r, k => by
    rw [getS, List.map_cons, List.mem_cons]
    by_cases e : p.1 = k
    · rw [if_pos e]
      exact ⟨fun h => (by cases h), fun h => absurd (Or.inl e.symm) h⟩
    · rw [if_neg e, get_none]
      exact ⟨fun h z => z.elim (fun q => e q.symm) h, fun h z => h (Or.inr z)⟩
theorem nodup_put {kvs : List (Str × β)} (k : Str) (v : β) (h : (kvs.map (·.1)).Nodup) : ((putS kvs k v).map (·.1)).Nodup := by
  rw [keys_put]
  split
  · exact h
  · rename_i e
    have n : getS kvs k = none := by
      cases q : getS kvs k with
      | none => rfl
      | some _ => rw [q] at e; exact absurd rfl e
    have nin := get_none.mp n
    rw [List.nodup_append]
    exact ⟨h, by simp, fun a ha c hc => by rw [List.mem_singleton.mp hc]; rintro rfl; exact nin ha⟩
theorem mem_put {kvs : List (Str × β)} {k : Str} {v : β} {p : Str × β} (h : p ∈ putS kvs k v) : p = (k, v) ∨ p ∈ kvs := by
  cases e : (getS kvs k).isSome with
  | true =>
    rw [putS_has e] at h
    obtain ⟨q, hq, rfl⟩ := List.mem_map.mp h
    by_cases z : q.1 = k
    · rw [if_pos z, z]
      exact Or.inl rfl
    · rw [if_neg z]
      exact Or.inr hq
  | false =>
    rw [putS_new e] at h
    rcases List.mem_append.mp h with h | h
    · exact Or.inr h
    · exact Or.inl (List.mem_singleton.mp h)
theorem get_put {kvs : List (Str × β)} {k j : Str} {v : β} : getS (putS kvs k v) j = if j = k then some v else getS kvs j := by
  induction kvs with
  | nil =>
    show (if k = j then some v else none) = _
    by_cases e : j = k
    · rw [if_pos e, if_pos e.symm]
    · rw [if_neg e, if_neg (fun h => e h.symm)]
      rfl
  | cons p r ih =>
    unfold putS
    by_cases e : p.1 = k
    · rw [if_pos e]
      by_cases z : j = k
      · rw [if_pos z, getS, if_pos (by rw [z]; exact e)]
      · rw [if_neg z, getS, getS, if_neg (by rw [e]; exact fun h => z h.symm), if_neg (by rw [e]; exact fun h => z h.symm)]
        have mp : ∀ l : List (Str × β), getS (l.map fun q => if q.1 = k then (q.1, v) else q) j = getS l j := by
          intro l
          induction l with
          | nil => rfl
          | cons q l il =>
            rw [List.map_cons, getS, getS, il]
            by_cases w : q.1 = k
            · rw [if_pos w, if_neg (by show ¬ q.1 = j; rw [w]; exact fun h => z h.symm), if_neg (by rw [w]; exact fun h => z h.symm)]
            · rw [if_neg w]
        exact mp r
    · rw [if_neg e, getS, getS, ih]
      by_cases z : p.1 = j
      · rw [if_pos z, if_pos z, if_neg (by rw [← z]; exact e)]
      · rw [if_neg z, if_neg z]
theorem len_put (kvs : List (Str × β)) (k : Str) (v : β) : (putS kvs k v).length ≤ kvs.length + 1 := by
  cases e : (getS kvs k).isSome with
  | true => rw [putS_has e, List.length_map]; omega
  | false => rw [putS_new e, List.length_append]; exact Nat.le_refl _
end
/-- some different texts out of a row are no more than the row -/
theorem few_of : ∀ {xs ys : List Str}, xs.Nodup → (∀ x ∈ xs, x ∈ ys) → xs.length ≤ ys.length
  | [], _, _, _ => Nat.zero_le _
  | x :: r, ys, nd, h => by
    obtain ⟨nx, nr⟩ := List.nodup_cons.mp nd
    have mx := h x List.mem_cons_self
    have ih := few_of (ys := ys.erase x) nr fun y hy => (List.mem_erase_of_ne (by rintro rfl; exact nx hy)).mpr (h y (List.mem_cons_of_mem _ hy))
    rw [List.length_erase_of_mem mx] at ih
    have : 0 < ys.length := List.length_pos_of_mem mx
    rw [List.length_cons]
    omega
end Pg

/-! Texts in their order: sorted of any number, and rows that rise. -/
namespace Pg
open PySem PySem.Spec PyProof.Rows L2
section
variable {X : Cx}
/-- sorted(l), l a row of texts of any length: the same texts, in order, in a new row -/
def rSortedSA (K : PySem.W.Frag) : List V → Hp → VK → Prop := fun args H Q =>
  ∃ (l : Addr) (texts : List Str), args = [.ref l] ∧ SqL K H l (texts.map V.str) ∧
    ∀ (inOrder : List Str) (new : Addr), inOrder.Perm texts → sortedS inOrder = true → H new = none →
      Q (.ref new) (upd H new (.lst (inOrder.map V.str)))
theorem cr_sortedSA : CallR X (.builtin "sorted") (rSortedSA X.K) := by
  rintro pins s σ H args vals Q I rel ⟨l, texts, rfl, at_l, want⟩
  obtain ⟨items, same, isl, small⟩ := I.list at_l
  rw [Vals.ref1 rel]
  have size := same.length
  apply PyProof.Rows.sorted_strsAny isl.isList same.strs (by rw [← size]; exact small)
  intro out inOrder areTexts perm order
  obtain ⟨extra, made⟩ := PyProof.Rows.sortedAll_at s.heap items out
  have isNew : H (s.heap.objs.size + 1) = none := I.hok.fresh (Nat.le_succ _)
  have fits : (inOrder.map V.str).length ≤ sizeLine := by
    rw [List.length_map] at small ⊢
    rw [perm.length_eq]
    exact small
  refine ⟨V.ref (s.heap.objs.size + 1), upd H (s.heap.objs.size + 1) (.lst (inOrder.map V.str)), ?_, rfl, ?_⟩
  · apply I.laid (t' := s.toks) (fun _ _ old => PyProof.Rows.sortedAll_old old) (Nat.le_succ _)
    exact ⟨fits, out.toList, extra, vals_of_strs areTexts, made⟩
  · exact want inOrder _ perm order isNew
end
theorem lc_irr : ∀ a : List Nat, ltCps a a = false
  | [] => rfl
  | x :: r => by simp [ltCps, lc_irr r]
theorem lc_trans : ∀ {a b c : List Nat}, ltCps a b = true → ltCps b c = true → ltCps a c = true
  | [], [], _, h, _ => by cases h
  | [], _ :: _, [], _, h => by cases h
  | [], _ :: _, _ :: _, _, _ => rfl
  | _ :: _, [], _, h, _ => by cases h
  | _ :: _, _ :: _, [], _, h => by cases h
  | x :: a, y :: b, z :: c, h, k => by
    simp only [ltCps, Bool.or_eq_true, decide_eq_true_eq, Bool.and_eq_true, beq_iff_eq] at h k ⊢
    rcases h with h | ⟨rfl, h⟩
    · rcases k with k | ⟨rfl, k⟩
      · exact Or.inl (by omega)
      · exact Or.inl h
    · rcases k with k | ⟨rfl, k⟩
      · exact Or.inl k
      · exact Or.inr ⟨rfl, lc_trans h k⟩
theorem lc_tri : ∀ {a b : List Nat}, ltCps a b = false → ltCps b a = false → a = b
  | [], [], _, _ => rfl
  | [], _ :: _, h, _ => by cases h
  | _ :: _, [], _, h => by cases h
  | x :: a, y :: b, h, k => by
    simp only [ltCps, Bool.or_eq_false_iff, decide_eq_false_iff_not, Bool.and_eq_false_iff, beq_eq_false_iff_ne] at h k
    have e : x = y := by omega
    subst e
    rw [lc_tri (h.2.resolve_left fun q => q rfl) (k.2.resolve_left fun q => q rfl)]
/-- x stands ahead of y -/
def ahead (x y : Str) : Bool := ltCps (cd x) (cd y)
theorem ahead_irr (x : Str) : ahead x x = false := lc_irr _
theorem ahead_trans {x y z : Str} (h : ahead x y = true) (k : ahead y z = true) : ahead x z = true := lc_trans h k
theorem ahead_tri {x y : Str} (h : ahead x y = false) (k : ahead y x = false) : x = y := cd_inj (lc_tri h k)
/-- each stands ahead of the next ones -/
def Rise (l : List Str) : Prop := l.Pairwise fun a b => ahead a b = true
def insS (x : Str) : List Str → List Str
  | [] => [x]
  | y :: r => if ahead x y = true then x :: y :: r else if x = y then y :: r else y :: insS x r
def rise (l : List Str) : List Str := l.foldr insS []
theorem mem_ins {x z : Str} : ∀ {l : List Str}, z ∈ insS x l ↔ z = x ∨ z ∈ l
  | [] => by simp [insS]
  | y :: r => by
    unfold insS
    split
    · simp
    · split
      · rename_i e
        subst e
        simp
      · rw [List.mem_cons, mem_ins, List.mem_cons]
        constructor
        · rintro (h | h | h)
          · exact Or.inr (Or.inl h)
          · exact Or.inl h
          · exact Or.inr (Or.inr h)
        · rintro (h | h | h)
          · exact Or.inr (Or.inl h)
          · exact Or.inl h
          · exact Or.inr (Or.inr h)
theorem rise_ins {x : Str} : ∀ {l : List Str}, Rise l → Rise (insS x l)
  | [], _ => List.pairwise_singleton _ _
  | y :: r, h => by
    obtain ⟨h1, h2⟩ := List.pairwise_cons.mp h
    unfold insS
    split
    · rename_i e
      refine List.pairwise_cons.mpr ⟨fun z hz => ?_, h⟩
      rcases List.mem_cons.mp hz with rfl | hz
      · exact e
      · exact ahead_trans e (h1 z hz)
    · split
      · exact h
      · rename_i e ne
        refine List.pairwise_cons.mpr ⟨fun z hz => ?_, rise_ins h2⟩
        rcases mem_ins.mp hz with rfl | hz
        · cases q : ahead y z with
          | true => rfl
          | false =>
            refine absurd (ahead_tri ?_ q) ne
            cases w : ahead z y with
            | false => rfl
            | true => exact absurd w e
        · exact h1 z hz
theorem rise_rise : ∀ l : List Str, Rise (rise l)
  | [] => List.Pairwise.nil
  | x :: r => rise_ins (rise_rise r)
theorem mem_rise {z : Str} : ∀ {l : List Str}, z ∈ rise l ↔ z ∈ l
  | [] => Iff.rfl
  | x :: r => by
    show z ∈ insS x (rise r) ↔ _
    rw [mem_ins, mem_rise, List.mem_cons]
/-- rows that rise and have the same texts are one -/
theorem rise_ext : ∀ {a b : List Str}, Rise a → Rise b → (∀ x, x ∈ a ↔ x ∈ b) → a = b
  | [], [], _, _, _ => rfl
  | [], y :: b, _, _, h => by cases (h y).mpr List.mem_cons_self
  | x :: a, [], _, _, h => by cases (h x).mp List.mem_cons_self
  | x :: a, y :: b, ha, hb, h => by
    obtain ⟨ha1, ha2⟩ := List.pairwise_cons.mp ha
    obtain ⟨hb1, hb2⟩ := List.pairwise_cons.mp hb
    have e : x = y := by
      rcases List.mem_cons.mp ((h x).mp List.mem_cons_self) with e | hx
      · exact e
      · rcases List.mem_cons.mp ((h y).mpr List.mem_cons_self) with e | hy
        · exact e.symm
        · have := ahead_trans (hb1 x hx) (ha1 y hy)
          rw [ahead_irr] at this
          cases this
    subst e
    rw [rise_ext ha2 hb2 fun z => ?_]
    constructor
    · intro hz
      rcases List.mem_cons.mp ((h z).mp (List.mem_cons_of_mem _ hz)) with e | hz2
      · rw [e] at hz
        have := ha1 x hz
        rw [ahead_irr] at this
        cases this
      · exact hz2
    · intro hz
      rcases List.mem_cons.mp ((h z).mpr (List.mem_cons_of_mem _ hz)) with e | hz2
      · rw [e] at hz
        have := hb1 x hz
        rw [ahead_irr] at this
        cases this
      · exact hz2
theorem rising_pw : ∀ {l : List Str} {p : Str}, risingS p l = true → (∀ x ∈ l, ahead x p = false) ∧ l.Pairwise fun a b => ahead b a = false
  | [], _, _ => ⟨fun x hx => (by cases hx), List.Pairwise.nil⟩
  | x :: r, p, h => by
    obtain ⟨h1, h2⟩ := Bool.and_eq_true_iff.mp h
    have hxp : ahead x p = false := by
      cases q : ahead x p with
      | false => rfl
      | true =>
        have h1 : (!ahead x p) = true := h1
        rw [q] at h1
        cases h1
    obtain ⟨k1, k2⟩ := rising_pw h2
    refine ⟨fun z hz => ?_, List.pairwise_cons.mpr ⟨k1, k2⟩⟩
    rcases List.mem_cons.mp hz with rfl | hz
    · exact hxp
    · have hzx := k1 z hz
      cases q : ahead z p with
      | false => rfl
      | true =>
        cases w : ahead p x with
        | true =>
          have := ahead_trans q w
          rw [hzx] at this
          cases this
        | false =>
          have e := ahead_tri hxp w
          rw [e] at hzx
          rw [hzx] at q
          cases q
theorem sorted_pw {l : List Str} (h : sortedS l = true) : l.Pairwise fun a b => ahead b a = false := by
  cases l with
  | nil => exact List.Pairwise.nil
  | cons x r =>
    obtain ⟨h1, h2⟩ := rising_pw (p := x) (l := r) h
    exact List.pairwise_cons.mpr ⟨h1, h2⟩
/-- the next of a sorted row, if it is new, rises behind what stands -/
theorem rise_snoc {rs ys : List Str} {j : Nat} {y : Str} (hr : Rise rs) (hm : ∀ x, x ∈ rs ↔ x ∈ ys.take j) (hs : sortedS ys = true) (hy : ys[j]? = some y) (nin : y ∉ rs) : Rise (rs ++ [y]) := by
  refine List.pairwise_append.mpr ⟨hr, List.pairwise_singleton _ _, fun a ha b hb => ?_⟩
  rw [List.mem_singleton.mp hb]
  have pw := sorted_pw hs
  have ha2 := (hm a).mp ha
  obtain ⟨i, hi⟩ := List.getElem?_of_mem ha2
  have hij : i < j := by
    by_cases lt : i < j
    · exact lt
    · rw [List.getElem?_eq_none (by rw [List.length_take]; omega)] at hi
      cases hi
  rw [List.getElem?_take_of_lt hij] at hi
  have li : i < ys.length := by
    by_cases lt : i < ys.length
    · exact lt
    · rw [List.getElem?_eq_none (by omega)] at hi
      cases hi
  have lj : j < ys.length := by
    by_cases lt : j < ys.length
    · exact lt
    · rw [List.getElem?_eq_none (by omega)] at hy
      cases hy
  have e1 : ys[i] = a := by
    rw [List.getElem?_eq_getElem li] at hi
    exact Option.some.inj hi
  have e2 : ys[j] = y := by
    rw [List.getElem?_eq_getElem lj] at hy
    exact Option.some.inj hy
  have h := (List.pairwise_iff_getElem.mp pw) i j li lj hij
  rw [e1, e2] at h
  cases q : ahead a y with
  | true => rfl
  | false => exact absurd (ahead_tri h q) (by rintro rfl; exact nin ha)
end Pg

/-! Own classes by their names; data that no store reaches. -/
namespace Pg
open PySem PySem.Spec PyProof.Rows L2
/-- a method of the class at C, with all its arguments given -/
def CalM (P : Program) (w : World) (K : PySem.W.Frag) (mg : Str → Option Value) (base : Heap) (C : Addr) (m : Str) (k : Nat) (ps : List Str) (sp : Sp) : Prop :=
  Cls K C ∧ ∃ f fd, FnOk P w K mg base CX0 k f fd ps sp ∧ Binds K fd ps [] ∧ Meth K C m f
/-- the class x at C, made by an __init__ of that promise -/
def CalK (P : Program) (w : World) (K : PySem.W.Frag) (mg : Str → Option Value) (base : Heap) (x : Str) (C : Addr) (k : Nat) (ps : List Str) (sp : Sp) : Prop :=
  mg x = some (.ref C) ∧ ∃ f fd, Mk K C f ∧ FnOk P w K mg base CX0 k f fd ps sp ∧ Binds K fd ps []
section
variable {X : Cx} {C : Addr} {k : Nat} {m x : Str} {ps : List Str} {sp : Sp} {o e : Expr} {es : List Expr} {to : TE} {t : TA} {apos pos p : Pos}
theorem pe_calM {pl : Sem Bool} (M : CalM X.prog X.w X.K X.mg X.base C m k ps sp) (hr : Room k X.A) (ho : PE X o to) (ha : PA X (e :: es) t)
    (hst : starEach (e :: es) X.env = (false, eval e X.env) :: starEach es X.env := by rfl) (hpl : (backTo pos (starEach es X.env)).any (·.1) = false := by rfl)
    (ht : eval (.Call (.Attribute o m apos) (e :: es) [] pos) X.env = (do
      let ov ← eval o X.env
      standAt apos.atName
      let (f, first) ← holding [ov] (getMethod ov m pl)
      callWith pos f first (backTo pos (starEach (e :: es) X.env)) (backToKw pos (keywordEach [] X.env))) := by rfl) :
    PE X (.Call (.Attribute o m apos) (e :: es) [] pos) (tMeth C m sp [] E0 to t) := by
  obtain ⟨c, f, fd, F, b, h⟩ := M
  exact pe_meth ho c h F hr b .nil pass0 ha hst hpl ht
theorem pe_calM0 {pl : Sem Bool} (M : CalM X.prog X.w X.K X.mg X.base C m k ps sp) (hr : Room k X.A) (ho : PE X o to)
    (ht : eval (.Call (.Attribute o m apos) [] [] pos) X.env = (do
      let ov ← eval o X.env
      standAt apos.atName
      let (f, first) ← holding [ov] (getMethod ov m pl)
      callWith pos f first (backTo pos (starEach [] X.env)) (backToKw pos (keywordEach [] X.env))) := by rfl) :
    PE X (.Call (.Attribute o m apos) [] [] pos) (tMeth C m sp [] E0 to tNil) := by
  obtain ⟨c, f, fd, F, b, h⟩ := M
  exact pe_meth0 ho c h F hr b .nil pass0 ht
theorem pe_mk0 (M : CalK X.prog X.w X.K X.mg X.base x C k ps sp) (hr : Room (k + 1) X.A) (hg : Gl X x) (hdb : (x == ("__debug__" : Str)) = false := by decide) : PE X (.Call (.Name x p) [] [] pos) (tMake C sp [] E0 tNil) := by
  obtain ⟨g, f, fd, mk, F, b⟩ := M
  exact pe_make0 mk F hr hg g b .nil pass0 hdb
theorem pe_mkA (M : CalK X.prog X.w X.K X.mg X.base x C k ps sp) (hr : Room (k + 1) X.A) (hg : Gl X x) (ha : PA X (e :: es) t) (hdb : (x == ("__debug__" : Str)) = false := by decide)
    (he : starEach (e :: es) X.env = (false, eval e X.env) :: starEach es X.env := by rfl) (hpl : (backTo pos (starEach es X.env)).any (·.1) = false := by rfl) :
    PE X (.Call (.Name x p) (e :: es) [] pos) (tMake C sp [] E0 t) := by
  obtain ⟨g, f, fd, mk, F, b⟩ := M
  exact pe_make mk F hr hg g b .nil pass0 ha hdb he hpl
end
theorem same_seqT {K : PySem.W.Frag} {H H' : Hp} {a : Addr} {xs : List V} (e : Same H H') (h : SqT K H a xs) : SqT K H' a xs := by
  rcases h with (h | ⟨o, h⟩) | h
  · exact .inl (.inl (e _ _ h))
  · exact .inl (.inr ⟨o, e _ _ h⟩)
  · exact .inr h
/-! ### data of tuples, texts, numbers: no store reaches it -/
/-- all tuples are as they were -/
def KeepT (K : PySem.W.Frag) (H H' : Hp) : Prop := ∀ a xs, SqT K H a xs → SqT K H' a xs
theorem Same.keepT {K : PySem.W.Frag} {H H' : Hp} (e : Same H H') : KeepT K H H' := fun _ _ h => same_seqT e h
theorem KeepT.trans {K : PySem.W.Frag} {H H1 H2 : Hp} (a : KeepT K H H1) (b : KeepT K H1 H2) : KeepT K H H2 := fun c xs h => b c xs (a c xs h)
/-- a store at an object that is no tuple -/
theorem KeepT.upd {K : PySem.W.Frag} {H : Hp} {p : Addr} {o : HO} (no : ∀ xs, H p ≠ some (.tup xs)) (nf : ∀ b xs, H p ≠ some (.frz b (.tup xs))) : KeepT K H (upd H p o) := by
  rintro a xs ((h | ⟨b, h⟩) | h)
  · exact .inl (.inl (by rw [upd_ne (by rintro rfl; exact no _ h)]; exact h))
  · exact .inl (.inr ⟨b, by rw [upd_ne (by rintro rfl; exact nf _ _ h)]; exact h⟩)
  · exact .inr h
mutual
def noL : PyData → Bool
  | .tuple ds => noLAll ds
  | .list _ => false
  | .dict _ => false
  | _ => true
def noLAll : List PyData → Bool
  | [] => true
  | d :: ds => noL d && noLAll ds
end
mutual
theorem Dp.keepT {K : PySem.W.Frag} {H H' : Hp} (k : KeepT K H H') : ∀ (d : PyData) (v : V), noL d = true → Dp K H v d → Dp K H' v d
  | .none, _, _, h => by cases h; exact .non
  | .bool b, _, _, h => by cases h; exact .bl b
  | .int i, _, _, h => by cases h; exact .int i
  | .str x, _, _, h => by cases h; exact .str x
  | .tuple ds, _, n, h => by
    cases h with
    | tup hs ha => exact .tup (k _ _ hs) (DpAll.keepT k ds _ n ha)
  | .list _, _, n, _ => by cases n
  | .dict _, _, n, _ => by cases n
theorem DpAll.keepT {K : PySem.W.Frag} {H H' : Hp} (k : KeepT K H H') : ∀ (ds : List PyData) (vs : List V), noLAll ds = true → DpAll K H vs ds → DpAll K H' vs ds
  | [], _, _, h => by cases h; exact .nil
  | d :: ds, _, n, h => by
    have n' : noL d = true ∧ noLAll ds = true := Bool.and_eq_true_iff.mp n
    cases h with
    | cons h1 h2 => exact .cons (Dp.keepT k d _ n'.1 h1) (DpAll.keepT k ds _ n'.2 h2)
end
/-! no truth value: equal as values is equal as data -/
mutual
def noB : PyData → Bool
  | .tuple ds => noBAll ds
  | .list ds => noBAll ds
  | .bool _ => false
  | .dict _ => false
  | _ => true
def noBAll : List PyData → Bool
  | [] => true
  | d :: ds => noB d && noBAll ds
end
mutual
theorem eqv_iff : ∀ (d e : PyData), noB d = true → noB e = true → (PyData.eqv d e = true ↔ d = e)
  | .none, e, _, n2 => by cases e <;> simp_all [PyData.eqv, noB]
  | .int i, e, _, n2 => by cases e <;> simp_all [PyData.eqv, noB]
  | .str x, e, _, n2 => by cases e <;> simp_all [PyData.eqv, noB]
  | .tuple ds, e, n1, n2 => by
    cases e with
    | tuple es =>
      rw [PyData.eqv, eqvAll_iff ds es n1 n2]
      exact ⟨fun h => by rw [h], fun h => PyData.tuple.inj h⟩
    | _ => simp_all [PyData.eqv, noB]
  | .list ds, e, n1, n2 => by
    cases e with
    | list es =>
      rw [PyData.eqv, eqvAll_iff ds es n1 n2]
      exact ⟨fun h => by rw [h], fun h => PyData.list.inj h⟩
    | _ => simp_all [PyData.eqv, noB]
  | .bool _, _, n1, _ => by cases n1
  | .dict _, _, n1, _ => by cases n1
theorem eqvAll_iff : ∀ (ds es : List PyData), noBAll ds = true → noBAll es = true → (PyData.eqvAll ds es = true ↔ ds = es)
  | [], [], _, _ => by simp [PyData.eqvAll]
  | [], _ :: _, _, _ => by simp [PyData.eqvAll]
  | _ :: _, [], _, _ => by simp [PyData.eqvAll]
  | d :: ds, e :: es, n1, n2 => by
    have n1' : noB d = true ∧ noBAll ds = true := Bool.and_eq_true_iff.mp n1
    have n2' : noB e = true ∧ noBAll es = true := Bool.and_eq_true_iff.mp n2
    rw [PyData.eqvAll, Bool.and_eq_true, eqv_iff d e n1'.1 n2'.1, eqvAll_iff ds es n1'.2 n2'.2]
    exact ⟨fun ⟨a, b⟩ => by rw [a, b], fun h => List.cons.inj h⟩
end
end Pg

/-! Data of a known size: what repr and == ask of it, put together from its parts. -/
namespace Pg
open PySem PySem.Spec PyProof.Rows L2
/-- at most D deep, at most M signs and parts -/
structure Sz (D M : Nat) (d : PyData) : Prop where
  ok : d.showable = true
  cl : d.canLay0 = true
  dep : d.depth ≤ D
  lv : d.leavesShort 13 = true
  bk : d.bulk ≤ M
structure SzA (D M : Nat) (ds : List PyData) : Prop where
  ok : PyData.showableAll ds = true
  cl : PyData.canLayAll0 ds = true
  dep : PyData.depthAll ds ≤ D
  lv : PyData.leavesShortAll 13 ds = true
  bk : PyData.bulkAll ds ≤ M
theorem Sz.mono {D D' M M' : Nat} {d : PyData} (s : Sz D M d) (h1 : D ≤ D') (h2 : M ≤ M') : Sz D' M' d := ⟨s.ok, s.cl, Nat.le_trans s.dep h1, s.lv, Nat.le_trans s.bk h2⟩
theorem SzA.mono {D D' M M' : Nat} {d : List PyData} (s : SzA D M d) (h1 : D ≤ D') (h2 : M ≤ M') : SzA D' M' d := ⟨s.ok, s.cl, Nat.le_trans s.dep h1, s.lv, Nat.le_trans s.bk h2⟩
theorem Sz.none : Sz 0 0 .none := ⟨rfl, rfl, Nat.le_refl _, rfl, Nat.le_refl _⟩
theorem Sz.bool (b : Bool) : Sz 0 0 (.bool b) := ⟨rfl, rfl, Nat.le_refl _, rfl, Nat.le_refl _⟩
theorem Sz.int {i : Int} (h1 : -999999999999 ≤ i) (h2 : i ≤ 999999999999) : Sz 0 0 (.int i) := by
  refine ⟨?_, rfl, Nat.le_refl _, ?_, Nat.le_refl _⟩
  · simp only [PyData.showable]
    refine decide_eq_true ?_
    by_cases z : i.natAbs = 0
    · rw [z]
      decide
    · refine (Nat.log2_lt z).mpr (Nat.lt_of_lt_of_le (show i.natAbs < 2 ^ 40 by omega) (Nat.pow_le_pow_right (n := 2) (by decide) (by decide)))
  · simp only [PyData.leavesShort]
    exact decide_eq_true (PyData.shown_int_le2 h1 h2)
theorem Sz.str {z : Str} {M : Nat} (c : Codes z) (l : z.length ≤ M) : Sz 0 M (.str z) := by
  refine ⟨rfl, ?_, Nat.le_refl _, ?_, ?_⟩
  · simp only [PyData.canLay0]
    exact c.ok
  · simp only [PyData.leavesShort]
    rw [List.all_eq_true]
    intro x hx
    have := c x hx
    exact decide_eq_true (by omega)
  · simp only [PyData.bulk]
    exact l
theorem SzA.nil {D : Nat} : SzA D 0 [] := ⟨rfl, rfl, Nat.zero_le _, rfl, Nat.le_refl _⟩
theorem SzA.cons {D M N : Nat} {d : PyData} {ds : List PyData} (a : Sz D M d) (b : SzA D N ds) : SzA D (M + 1 + N) (d :: ds) := by
  refine ⟨?_, ?_, ?_, ?_, ?_⟩
  · simp only [PyData.showableAll, a.ok, b.ok, Bool.and_true]
  · simp only [PyData.canLayAll0, a.cl, b.cl, Bool.and_true]
  · simp only [PyData.depthAll]
    exact Nat.max_le.mpr ⟨a.dep, b.dep⟩
  · simp only [PyData.leavesShortAll, a.lv, b.lv, Bool.and_true]
  · simp only [PyData.bulkAll]
    have := a.bk
    have := b.bk
    omega
theorem SzA.all {D M n : Nat} : ∀ {ds : List PyData}, (∀ d ∈ ds, Sz D M d) → ds.length ≤ n → SzA D (n * (M + 1)) ds
  | [], _, _ => SzA.nil.mono (Nat.le_refl _) (Nat.zero_le _)
  | d :: ds, h, l => by
    obtain ⟨n, rfl⟩ : ∃ m, n = m + 1 := ⟨n - 1, by rw [List.length_cons] at l; omega⟩
    have ih := SzA.all (n := n) (fun x hx => h x (List.mem_cons_of_mem _ hx)) (by rw [List.length_cons] at l; omega)
    refine (SzA.cons (h d List.mem_cons_self) ih).mono (Nat.le_refl _) ?_
    rw [Nat.succ_mul]
    omega
theorem SzA.tup {D M : Nat} {ds : List PyData} (a : SzA D M ds) : Sz (D + 1) M (.tuple ds) := by
  refine ⟨?_, ?_, ?_, ?_, ?_⟩
  · simp only [PyData.showable, a.ok]
  · simp only [PyData.canLay0, a.cl]
  · simp only [PyData.depth]
    exact Nat.succ_le_succ a.dep
  · simp only [PyData.leavesShort, a.lv]
  · simp only [PyData.bulk]
    exact a.bk
theorem SzA.lst {D M : Nat} {ds : List PyData} (a : SzA D M ds) : Sz (D + 1) M (.list ds) := by
  refine ⟨?_, ?_, ?_, ?_, ?_⟩
  · simp only [PyData.showable, a.ok]
  · simp only [PyData.canLay0, a.cl]
  · simp only [PyData.depth]
    exact Nat.succ_le_succ a.dep
  · simp only [PyData.leavesShort, a.lv]
  · simp only [PyData.bulk]
    exact a.bk
theorem Sz.nd {D M : Nat} {d : PyData} (s : Sz D M d) : d.hasDict = false := PyData.hasDict_of_canLay _ s.cl
theorem Sz.fits {D M : Nat} {d : PyData} (s : Sz D M d) (h : M ≤ 2 ^ 20) : d.shown.length ≤ sizeLine := PyData.shown_fits_bulk (B := 13) (by decide) (by decide) s.lv (Nat.le_trans s.bk h)
theorem Sz.shaped {D M : Nat} {d : PyData} (s : Sz D M d) (h : D ≤ 64) : SeqAt.shaped d = true := by
  unfold SeqAt.shaped
  rw [s.cl, Bool.true_and]
  exact decide_eq_true (Nat.le_trans s.dep h)
/-- .. of tuples, texts, numbers, None alone -/
structure Pd (D M : Nat) (d : PyData) : Prop where
  sz : Sz D M d
  nl : noL d = true
  nb : noB d = true
structure PdA (D M : Nat) (ds : List PyData) : Prop where
  sz : SzA D M ds
  nl : noLAll ds = true
  nb : noBAll ds = true
theorem Pd.mono {D D' M M' : Nat} {d : PyData} (s : Pd D M d) (h1 : D ≤ D') (h2 : M ≤ M') : Pd D' M' d := ⟨s.sz.mono h1 h2, s.nl, s.nb⟩
theorem PdA.mono {D D' M M' : Nat} {d : List PyData} (s : PdA D M d) (h1 : D ≤ D') (h2 : M ≤ M') : PdA D' M' d := ⟨s.sz.mono h1 h2, s.nl, s.nb⟩
theorem Pd.none : Pd 0 0 .none := ⟨Sz.none, rfl, rfl⟩
theorem Pd.int {i : Int} (h1 : -999999999999 ≤ i) (h2 : i ≤ 999999999999) : Pd 0 0 (.int i) := ⟨Sz.int h1 h2, rfl, rfl⟩
theorem Pd.str {z : Str} {M : Nat} (c : Codes z) (l : z.length ≤ M) : Pd 0 M (.str z) := ⟨Sz.str c l, rfl, rfl⟩
theorem PdA.nil {D : Nat} : PdA D 0 [] := ⟨SzA.nil, rfl, rfl⟩
theorem PdA.cons {D M N : Nat} {d : PyData} {ds : List PyData} (a : Pd D M d) (b : PdA D N ds) : PdA D (M + 1 + N) (d :: ds) :=
  ⟨SzA.cons a.sz b.sz, by simp only [noLAll, a.nl, b.nl, Bool.and_true], by simp only [noBAll, a.nb, b.nb, Bool.and_true]⟩
theorem PdA.all {D M n : Nat} {ds : List PyData} (h : ∀ d ∈ ds, Pd D M d) (l : ds.length ≤ n) : PdA D (n * (M + 1)) ds := by
  refine ⟨SzA.all (fun d hd => (h d hd).sz) l, ?_, ?_⟩
  · clear l
    induction ds with
    | nil => rfl
    | cons d r ih =>
      rw [noLAll, (h d List.mem_cons_self).nl, ih fun x hx => h x (List.mem_cons_of_mem _ hx)]
      rfl
  · clear l
    induction ds with
    | nil => rfl
    | cons d r ih =>
      rw [noBAll, (h d List.mem_cons_self).nb, ih fun x hx => h x (List.mem_cons_of_mem _ hx)]
      rfl
theorem PdA.tup {D M : Nat} {ds : List PyData} (a : PdA D M ds) : Pd (D + 1) M (.tuple ds) := ⟨a.sz.tup, by simp only [noL, a.nl], by simp only [noB, a.nb]⟩
theorem PdA.mem {D M : Nat} : ∀ {ds : List PyData}, PdA D M ds → ∀ d ∈ ds, Pd D M d
  | x :: ds, a, d, hd => by
    obtain ⟨⟨a1, a2, a3, a4, a5⟩, b1, b2⟩ := a
    have a1' : x.showable = true ∧ PyData.showableAll ds = true := Bool.and_eq_true_iff.mp a1
    have a2' : x.canLay0 = true ∧ PyData.canLayAll0 ds = true := Bool.and_eq_true_iff.mp a2
    have a3' : x.depth ≤ D ∧ PyData.depthAll ds ≤ D := Nat.max_le.mp a3
    have a4' : x.leavesShort 13 = true ∧ PyData.leavesShortAll 13 ds = true := Bool.and_eq_true_iff.mp a4
    have a5' : x.bulk + 1 + PyData.bulkAll ds ≤ M := a5
    have b1' : noL x = true ∧ noLAll ds = true := Bool.and_eq_true_iff.mp b1
    have b2' : noB x = true ∧ noBAll ds = true := Bool.and_eq_true_iff.mp b2
    rcases List.mem_cons.mp hd with rfl | hd
    · exact ⟨⟨a1'.1, a2'.1, a3'.1, a4'.1, by omega⟩, b1'.1, b2'.1⟩
    · exact PdA.mem (ds := ds) ⟨⟨a1'.2, a2'.2, a3'.2, a4'.2, by omega⟩, b1'.2, b2'.2⟩ d hd
theorem Pd.parts {D M : Nat} {ds : List PyData} (p : Pd D M (.tuple ds)) : PdA D M ds := by
  obtain ⟨⟨a1, a2, a3, a4, a5⟩, b1, b2⟩ := p
  have a3' : PyData.depthAll ds + 1 ≤ D := a3
  exact ⟨⟨a1, a2, by omega, a4, a5⟩, b1, b2⟩
theorem Pd.keep {D M : Nat} {K : PySem.W.Frag} {H H' : Hp} {v : V} {d : PyData} (p : Pd D M d) (k : KeepT K H H') (h : Dp K H v d) : Dp K H' v d := Dp.keepT k d v p.nl h
theorem PdA.keep {D M : Nat} {K : PySem.W.Frag} {H H' : Hp} {v : List V} {d : List PyData} (p : PdA D M d) (k : KeepT K H H') (h : DpAll K H v d) : DpAll K H' v d := DpAll.keepT k d v p.nl h
theorem Pd.eqv {D M D' M' : Nat} {d e : PyData} (a : Pd D M d) (b : Pd D' M' e) : PyData.eqv d e = true ↔ d = e := eqv_iff d e a.nb b.nb
theorem dpAll_len {K : PySem.W.Frag} {H : Hp} : ∀ {vs : List V} {ds : List PyData}, DpAll K H vs ds → vs.length = ds.length
  | _, _, .nil => rfl
  | _, _, .cons _ t => congrArg (· + 1) (dpAll_len t)
theorem dpAll_get {K : PySem.W.Frag} {H : Hp} : ∀ {vs : List V} {ds : List PyData} {i : Nat} {d : PyData}, DpAll K H vs ds → ds[i]? = some d → ∃ v, vs[i]? = some v ∧ Dp K H v d
  | _, _, 0, _, .cons h _, e => ⟨_, rfl, by rw [← Option.some.inj e]; exact h⟩
  | _, _, i + 1, _, .cons _ t, e => dpAll_get (i := i) t e
theorem dpAll_get' {K : PySem.W.Frag} {H : Hp} : ∀ {vs : List V} {ds : List PyData} {i : Nat} {v : V}, DpAll K H vs ds → vs[i]? = some v → ∃ d, ds[i]? = some d ∧ Dp K H v d
  | _, _, 0, _, .cons h _, e => ⟨_, rfl, by rw [← Option.some.inj e]; exact h⟩
  | _, _, i + 1, _, .cons _ t, e => dpAll_get' (i := i) t e
theorem dpAll_app {K : PySem.W.Frag} {H : Hp} : ∀ {vs ws : List V} {ds es : List PyData}, DpAll K H vs ds → DpAll K H ws es → DpAll K H (vs ++ ws) (ds ++ es)
  | _, _, _, _, .nil, h => h
  | _, _, _, _, .cons a t, h => .cons a (dpAll_app t h)
theorem dpAll_take {K : PySem.W.Frag} {H : Hp} : ∀ {vs : List V} {ds : List PyData} (n : Nat), DpAll K H vs ds → DpAll K H (vs.take n) (ds.take n)
  | _, _, 0, _ => .nil
  | _, _, _ + 1, .nil => .nil
  | _, _, n + 1, .cons a t => .cons a (dpAll_take n t)
/-- a list of data -/
def LAt (K : PySem.W.Frag) (H : Hp) (l : Addr) (ds : List PyData) : Prop := ∃ vs, H l = some (.lst vs) ∧ DpAll K H vs ds
theorem LAt.keep {D M : Nat} {K : PySem.W.Frag} {H H' : Hp} {l : Addr} {ds : List PyData} (a : LAt K H l ds) (p : PdA D M ds) (k : KeepT K H H') (e : H' l = H l) : LAt K H' l ds :=
  let ⟨vs, h, d⟩ := a
  ⟨vs, e.trans h, p.keep k d⟩
theorem LAt.same {D M : Nat} {K : PySem.W.Frag} {H H' : Hp} {l : Addr} {ds : List PyData} (a : LAt K H l ds) (p : PdA D M ds) (s : Same H H') : LAt K H' l ds :=
  let ⟨vs, h, d⟩ := a
  ⟨vs, s _ _ h, p.keep (Same.keepT s) d⟩
theorem LAt.dp {K : PySem.W.Frag} {H : Hp} {l : Addr} {ds : List PyData} (a : LAt K H l ds) : Dp K H (.ref l) (.list ds) :=
  let ⟨_, h, d⟩ := a
  .lst (.inl (.inl h)) d
/-! ### a dict comprehension over the items of a dict that is locked meanwhile -/
theorem dc_items {d : Addr} {o : Obj} {kvs : List (Key × V)} {g : TG} {tt : TT} {tk tv : TE} {vs : List Nat} {σ : L2.St} {H1 : Hp} {D : Addr} {Qd : Hp → Prop} (Pv : Nat → Hp → Prop) (h0 : Pv 0 (upd H1 D (.dK [])))
    (hl : ∀ i H, i ≤ kvs.length → Pv i H → H d = some (.frz o (.dK kvs)))
    (hs : ∀ i k v T H, kvs[i]? = some (k, v) → Pv i H → H T = none → g (.ref T) (wipe σ vs) (upd H T (.tup [kV k, v])) fun σ2 H2 => wipe σ2 vs = wipe σ vs ∧ tt σ2 H2 fun b H3 =>
      if b = true then tk σ2 H3 fun y H4 => tv σ2 H4 fun z H5 => ∃ kws k, y = kV k ∧ H5 D = some (.dK kws) ∧ kws.length < sizeLine ∧ Pv (i + 1) (upd H5 D (.dK (putK kws k z))) else Pv (i + 1) H3) (hd : ∀ H, Pv kvs.length H → Qd H) :
    ∃ W : Nat → Nat → Hp → Prop, (∃ m, W 0 m (upd H1 D (.dK []))) ∧ ∀ i m H, W i m H →
      ((Iti d o kvs).stop i H ∧ Qd H) ∨ ((Iti d o kvs).go i H ∧ ∃ Nx : Hp → Prop, (∀ H', Nx H' → ∃ m', m' < m ∧ W (i + 1) m' H') ∧ ∀ x H', (Iti d o kvs).yld i H x H' → g x (wipe σ vs) H' fun σ2 H2 => wipe σ2 vs = wipe σ vs ∧ tt σ2 H2 fun b H3 =>
        if b = true then tk σ2 H3 fun y H4 => tv σ2 H4 fun z H5 => ∃ kws k, y = kV k ∧ H5 D = some (.dK kws) ∧ kws.length < sizeLine ∧ Nx (upd H5 D (.dK (putK kws k z))) else Nx H3) := by
  refine ⟨fun i m H => i + m = kvs.length ∧ Pv i H, ⟨kvs.length, by omega, h0⟩, ?_⟩
  rintro i m H ⟨e, p⟩
  have lk := hl i H (by omega) p
  by_cases lt : i < kvs.length
  · refine Or.inr ⟨⟨lk, lt⟩, Pv (i + 1), fun H' q => ⟨m - 1, by omega, by omega, q⟩, ?_⟩
    rintro x H' ⟨T, k, v, hkv, rfl, nT, rfl⟩
    exact hs i k v T H hkv p nT
  · obtain rfl : i = kvs.length := by omega
    exact Or.inl ⟨⟨lk, Nat.le_refl _⟩, hd H p⟩
/-! ### small things -/
/-- within a comprehension: the written part is the def's own -/
theorem op_eqDK {X : Cx} {K : PySem.W.Frag} (h : X.K = K) (hu : X.A.units + 64 < cLine) : OpR X (compareOp .Eq) (rEqD K) := h ▸ op_eqD hu
theorem op_neDK {X : Cx} {K : PySem.W.Frag} (h : X.K = K) (hu : X.A.units + 64 < cLine) : OpR X (compareOp .NotEq) (rNeD K) := h ▸ op_neD hu
theorem op_in_seqK {X : Cx} {K : PySem.W.Frag} (h : X.K = K) : OpR X (compareOp .In) (rIn K false) := h ▸ op_in_seq
theorem pg_tupK {X : Cx} {K : PySem.W.Frag} {es : List Expr} {k : Nat} {t : TGs} {n : Nat} {pos : Pos} (e : X.K = K) (hc : X.calm = true) (h : PGs X es t)
    (hn : (assignEach es X.env).length = n := by rfl) (hst : (assignEach es X.env).findIdx? (·.1) = none := by rfl) : PG X (.Tuple es k pos) (gTup K n t) := e ▸ pg_tup hc h hn hst
theorem op_notIn_seqK {X : Cx} {K : PySem.W.Frag} (h : X.K = K) : OpR X (compareOp .NotIn) (rIn K true) := h ▸ op_notIn_seq
theorem inV_str (x : Str) (ys : List Str) : inV (.str x) (ys.map V.str) = decide (x ∈ ys) := by
  unfold inV
  rw [List.any_map, Bool.eq_iff_iff, List.any_eq_true, decide_eq_true_eq]
  constructor
  · rintro ⟨y, hy, e⟩
    have e' : (y == x) = true := e
    rw [← eq_of_beq e']
    exact hy
  · intro h
    exact ⟨x, h, (beq_self_eq_true x : (x == x) = true)⟩
theorem flat_str (ys : List Str) : (ys.map V.str).all flatV = true := by
  rw [List.all_map, List.all_eq_true]
  intro y _
  rfl
theorem cutV_up (xs : List V) (j : Nat) : cutV xs none (some (j : Int)) = xs.take j := by
  unfold cutV
  rw [HT.sIx_none, show HT.sIx xs.length xs.length (some (j : Int)) = min j xs.length from HT.sIx_nat xs.length xs.length j]
  show List.take (min j xs.length - 0) (List.drop 0 xs) = _
  rw [List.drop_zero, Nat.sub_zero, List.take_eq_take_iff]
  omega
theorem putS_app {β : Type} (kvs : List (Str × β)) (k : Str) (v : β) (h : k ∉ kvs.map (·.1)) : putS kvs k v = kvs ++ [(k, v)] := by
  apply putS_new
  rw [get_none.mpr h]
  rfl
/-- a list stays where a store goes to something else -/
theorem sqL_upd {K : PySem.W.Frag} {H : Hp} {p a : Addr} {o : HO} {xs : List V} (no : ∀ xs, H p ≠ some (.lst xs)) (nf : ∀ b xs, H p ≠ some (.frz b (.lst xs))) (h : SqL K H a xs) : SqL K (upd H p o) a xs := by
  rcases h with (h | ⟨b, h⟩) | h
  · exact .inl (.inl (by rw [upd_ne (by rintro rfl; exact no _ h)]; exact h))
  · exact .inl (.inr ⟨b, by rw [upd_ne (by rintro rfl; exact nf _ _ h)]; exact h⟩)
  · exact .inr h
end Pg

/-! Rows of numbers, cut and put together; comprehensions that work on values alone; a module's text. -/
namespace Pg
open PySem PySem.Spec PyProof.Rows L2

theorem pe_cS {X : Cx} {x z : Str} {pos : Pos} (hg : Gl X x) (hm : ∃ t, X.mg x = some (.str z t)) (hd : (x == ("__debug__" : Str)) = false := by decide) : PE X (.Name x pos) (tC (.str z)) := by
  obtain ⟨t, e⟩ := hm
  exact pe_glob hg e ⟨t, rfl⟩ hd
/-- numbers that are not below 0 -/
def vN (bs : List Nat) : List V := bs.map fun n => V.int (n : Nat)
theorem vN_len (bs : List Nat) : (vN bs).length = bs.length := List.length_map _
theorem vN_app (a b : List Nat) : vN (a ++ b) = vN a ++ vN b := List.map_append
theorem vN_take (a : List Nat) (n : Nat) : vN (a.take n) = (vN a).take n := List.map_take
theorem vN_drop (a : List Nat) (n : Nat) : vN (a.drop n) = (vN a).drop n := List.map_drop
theorem vN_set (a : List Nat) (n x : Nat) : vN (a.set n x) = (vN a).set n (.int (x : Nat)) := List.map_set
theorem vN_rep (n x : Nat) : vN (List.replicate n x) = List.replicate n (.int (x : Nat)) := List.map_replicate
theorem vN_get {bs : List Nat} {i n : Nat} (h : bs[i]? = some n) : (vN bs)[i]? = some (V.int (n : Nat)) := by
  unfold vN
  rw [List.getElem?_map, h]
  rfl
theorem vN_get' {bs : List Nat} {i : Nat} {x : V} (h : (vN bs)[i]? = some x) : ∃ n, bs[i]? = some n ∧ x = V.int (n : Nat) := by
  unfold vN at h
  rw [List.getElem?_map] at h
  cases e : bs[i]? with
  | none => rw [e] at h; cases h
  | some n => rw [e] at h; exact ⟨n, rfl, (Option.some.inj h).symm⟩
theorem dpAll_vN {K : PySem.W.Frag} {H : Hp} : ∀ bs : List Nat, DpAll K H (vN bs) (bs.map fun n => PyData.int (n : Nat))
  | [] => .nil
  | _ :: r => .cons (.int _) (dpAll_vN r)
theorem dp_vN {K : PySem.W.Frag} {H : Hp} {l : Addr} {bs : List Nat} (h : H l = some (.lst (vN bs))) : Dp K H (.ref l) (.list (bs.map fun n => PyData.int (n : Nat))) := .lst (.inl (.inl h)) (dpAll_vN bs)
theorem sz_vN {bs : List Nat} {n : Nat} (h : ∀ b ∈ bs, b ≤ 999999999999) (l : bs.length ≤ n) : Sz 1 (n * 1) (.list (bs.map fun n => PyData.int (n : Nat))) := by
  refine (SzA.all (fun d hd => ?_) (by rw [List.length_map]; exact l)).lst
  obtain ⟨b, hb, rfl⟩ := List.mem_map.mp hd
  have := h b hb
  exact Sz.int (by omega) (by omega)
theorem noB_vN : ∀ bs : List Nat, noBAll (bs.map fun n => PyData.int (n : Nat)) = true
  | [] => rfl
  | b :: r => by
    show (noB _ && noBAll _) = true
    rw [show noB (.int (b : Nat)) = true from rfl, Bool.true_and]
    exact noB_vN r
theorem cut_nn (xs : List V) (a b : Nat) : cutV xs (some (a : Int)) (some (b : Int)) = (xs.drop a).take (b - a) := by
  unfold cutV
  rw [show HT.sIx xs.length 0 (some (a : Int)) = min a xs.length from HT.sIx_nat _ _ _, show HT.sIx xs.length xs.length (some (b : Int)) = min b xs.length from HT.sIx_nat _ _ _]
  by_cases h : a ≤ xs.length
  · rw [Nat.min_eq_left h, List.take_eq_take_iff, List.length_drop]
    omega
  · rw [List.drop_of_length_le (by omega), List.drop_of_length_le (i := a) (by omega), List.take_nil, List.take_nil]
theorem cut_n_ (xs : List V) (a : Nat) : cutV xs (some (a : Int)) none = xs.drop a := by
  unfold cutV
  rw [show HT.sIx xs.length 0 (some (a : Int)) = min a xs.length from HT.sIx_nat _ _ _, HT.sIx_none]
  by_cases h : a ≤ xs.length
  · rw [Nat.min_eq_left h]
    exact List.take_of_length_le (by rw [List.length_drop]; omega)
  · rw [List.drop_of_length_le (by omega), List.drop_of_length_le (i := a) (by omega), List.take_nil]
theorem cut_nm (xs : List V) (a : Nat) : cutV xs (some (a : Int)) (some (-1)) = (xs.drop a).take (xs.length - 1 - a) := by
  unfold cutV
  rw [show HT.sIx xs.length 0 (some (a : Int)) = min a xs.length from HT.sIx_nat _ _ _]
  have e : HT.sIx xs.length xs.length (some (-1)) = xs.length - 1 := by
    show (if (-1 : Int) < 0 then ((-1 : Int) + (xs.length : Int)).toNat else min (-1 : Int).toNat xs.length) = _
    rw [if_pos (by decide)]
    omega
  rw [e]
  by_cases h : a ≤ xs.length
  · rw [Nat.min_eq_left h]
  · rw [List.drop_of_length_le (by omega), List.drop_of_length_le (i := a) (by omega), List.take_nil, List.take_nil]
theorem at_last {xs : List V} {v : V} (h : xs.getLast? = some v) : atI xs (-1) = some v := by
  have ne : xs ≠ [] := by
    rintro rfl
    cases h
  have pos : 0 < xs.length := List.length_pos_iff.mpr ne
  unfold atI ixN
  rw [if_neg (by decide), if_pos (by omega)]
  show xs[((-1 : Int) + (xs.length : Int)).toNat]? = _
  rw [List.getLast?_eq_getElem?] at h
  rw [← h]
  congr 1
  omega
/-- a comprehension that makes each item anew from values alone -/
theorem lc_map {K : PySem.W.Frag} {a : Addr} {xs : List V} {g : TG} {tt : TT} {te : TE} {vs : List Nat} {σ : L2.St} {H1 : Hp} {D : Addr} {Qd : Hp → Prop} (fx : V → V) (nD : H1 D = none) (hl : SqL K H1 a xs) (few : xs.length < sizeLine)
    (hs : ∀ (i : Nat) (x : V) (H : Hp) (R : V → Hp → Prop) (S : Hp → Prop), xs[i]? = some x → Same H1 H → R (fx x) H →
      g x (wipe σ vs) H fun σ2 H2 => wipe σ2 vs = wipe σ vs ∧ tt σ2 H2 fun b H3 => if b = true then te σ2 H3 R else S H3) (hd : Qd (upd H1 D (.lst (xs.map fx)))) :
    ∃ W : Nat → Nat → Hp → Prop, (∃ m, W 0 m (upd H1 D (.lst []))) ∧ ∀ i m H, W i m H → ((Itl K a).stop i H ∧ Qd H) ∨
      ((Itl K a).go i H ∧ ∃ Nx : Hp → Prop, (∀ H', Nx H' → ∃ m', m' < m ∧ W (i + 1) m' H') ∧ ∀ x H', (Itl K a).yld i H x H' →
        g x (wipe σ vs) H' fun σ2 H2 => wipe σ2 vs = wipe σ vs ∧ tt σ2 H2 fun b H3 => if b = true then te σ2 H3 fun y H4 => ∃ acc, H4 D = some (.lst acc) ∧ acc.length < sizeLine ∧ Nx (upd H4 D (.lst (acc ++ [y]))) else Nx H3) := by
  have sm : ∀ {o : HO}, Same H1 (upd H1 D o) := fun {o} p x e => by
    rw [upd_ne (ne_of_none e nD)]
    exact e
  have kl : ∀ {o : HO}, SqL K (upd H1 D o) a xs := fun {o} => by
    rcases hl with (h | ⟨u, h⟩) | h
    · exact .inl (.inl (sm _ _ h))
    · exact .inl (.inr ⟨u, sm _ _ h⟩)
    · exact .inr h
  refine lc_list (K := K) (a := a) (xs := xs) (fun i H => H = upd H1 D (.lst ((xs.take i).map fx))) rfl (fun i H _ e => by rw [e]; exact kl) ?_ ?_
  · rintro i x H hx rfl
    refine hs i x _ _ _ hx sm ⟨_, upd_same, ?_, ?_⟩
    · rw [List.length_map, List.length_take]
      omega
    · rw [upd_upd, List.take_add_one, hx, List.map_append]
      rfl
  · rintro H rfl
    rw [List.take_length]
    exact hd
/-- .. of those that pass a test -/
theorem lc_filter {K : PySem.W.Frag} {a : Addr} {xs : List V} {g : TG} {tt : TT} {te : TE} {vs : List Nat} {σ : L2.St} {H1 : Hp} {D : Addr} {Qd : Hp → Prop} (px : V → Bool) (fx : V → V) (nD : H1 D = none) (hl : SqL K H1 a xs) (few : xs.length < sizeLine)
    (hs : ∀ (i : Nat) (x : V) (H : Hp) (R : V → Hp → Prop) (S : Hp → Prop), xs[i]? = some x → Same H1 H → (px x = true → R (fx x) H) → (px x = false → S H) →
      g x (wipe σ vs) H fun σ2 H2 => wipe σ2 vs = wipe σ vs ∧ tt σ2 H2 fun b H3 => if b = true then te σ2 H3 R else S H3) (hd : Qd (upd H1 D (.lst ((xs.filter px).map fx)))) :
    ∃ W : Nat → Nat → Hp → Prop, (∃ m, W 0 m (upd H1 D (.lst []))) ∧ ∀ i m H, W i m H → ((Itl K a).stop i H ∧ Qd H) ∨
      ((Itl K a).go i H ∧ ∃ Nx : Hp → Prop, (∀ H', Nx H' → ∃ m', m' < m ∧ W (i + 1) m' H') ∧ ∀ x H', (Itl K a).yld i H x H' →
        g x (wipe σ vs) H' fun σ2 H2 => wipe σ2 vs = wipe σ vs ∧ tt σ2 H2 fun b H3 => if b = true then te σ2 H3 fun y H4 => ∃ acc, H4 D = some (.lst acc) ∧ acc.length < sizeLine ∧ Nx (upd H4 D (.lst (acc ++ [y]))) else Nx H3) := by
  have sm : ∀ {o : HO}, Same H1 (upd H1 D o) := fun {o} p x e => by
    rw [upd_ne (ne_of_none e nD)]
    exact e
  have kl : ∀ {o : HO}, SqL K (upd H1 D o) a xs := fun {o} => by
    rcases hl with (h | ⟨u, h⟩) | h
    · exact .inl (.inl (sm _ _ h))
    · exact .inl (.inr ⟨u, sm _ _ h⟩)
    · exact .inr h
  refine lc_list (K := K) (a := a) (xs := xs) (fun i H => H = upd H1 D (.lst (((xs.take i).filter px).map fx))) rfl (fun i H _ e => by rw [e]; exact kl) ?_ ?_
  · rintro i x H hx rfl
    have nx : (xs.take (i + 1)).filter px = (xs.take i).filter px ++ [x].filter px := by
      rw [List.take_add_one, hx, List.filter_append]
      rfl
    refine hs i x _ _ _ hx sm (fun p => ⟨_, upd_same, ?_, ?_⟩) (fun p => ?_)
    · rw [List.length_map]
      have h1 := List.length_filter_le px (xs.take i)
      rw [List.length_take] at h1
      omega
    · rw [upd_upd, nx, List.filter_cons_of_pos p, List.map_append]
      rfl
    · rw [nx, List.filter_cons_of_neg (by simp [p]), List.filter_nil, List.append_nil]
  · rintro H rfl
    rw [List.take_length]
    exact hd
/-- a comprehension over a range that makes each item from values alone -/
theorem lc_rangeMap {lo : Int} {n : Nat} {g : TG} {tt : TT} {te : TE} {vs : List Nat} {σ : L2.St} {H1 : Hp} {D : Addr} {Qd : Hp → Prop} (fx : Nat → V) (nD : H1 D = none) (few : n < sizeLine)
    (hs : ∀ (i : Nat) (H : Hp) (R : V → Hp → Prop) (S : Hp → Prop), i < n → Same H1 H → R (fx i) H →
      g (.int (lo + i)) (wipe σ vs) H fun σ2 H2 => wipe σ2 vs = wipe σ vs ∧ tt σ2 H2 fun b H3 => if b = true then te σ2 H3 R else S H3) (hd : Qd (upd H1 D (.lst ((List.range n).map fx)))) :
    ∃ W : Nat → Nat → Hp → Prop, (∃ m, W 0 m (upd H1 D (.lst []))) ∧ ∀ i m H, W i m H → ((Itr lo n).stop i H ∧ Qd H) ∨
      ((Itr lo n).go i H ∧ ∃ Nx : Hp → Prop, (∀ H', Nx H' → ∃ m', m' < m ∧ W (i + 1) m' H') ∧ ∀ x H', (Itr lo n).yld i H x H' →
        g x (wipe σ vs) H' fun σ2 H2 => wipe σ2 vs = wipe σ vs ∧ tt σ2 H2 fun b H3 => if b = true then te σ2 H3 fun y H4 => ∃ acc, H4 D = some (.lst acc) ∧ acc.length < sizeLine ∧ Nx (upd H4 D (.lst (acc ++ [y]))) else Nx H3) := by
  have sm : ∀ {o : HO}, Same H1 (upd H1 D o) := fun {o} p x e => by
    rw [upd_ne (ne_of_none e nD)]
    exact e
  refine lc_range (lo := lo) (n := n) (fun i H => H = upd H1 D (.lst ((List.range i).map fx))) rfl ?_ ?_
  · rintro i H hi rfl
    refine hs i _ _ _ hi sm ⟨_, upd_same, ?_, ?_⟩
    · rw [List.length_map, List.length_range]
      omega
    · rw [upd_upd, List.range_succ, List.map_append]
      rfl
  · rintro H rfl
    exact hd
theorem join_glue0 (ys : List Str) : Txt.join "" ys = glue ys := by
  apply cd_inj
  have h1 : cd (Txt.join "" ys) = TL.joinL (cd "") (ys.map cd) := by
    rw [TL.join_eq]
    exact TL.tl_join "" ys
  have e0 : cd ("" : Str) = [] := by decide +kernel
  rw [h1, e0]
  have h2 : ∀ l : List Str, TL.joinL [] (l.map cd) = cd (glue l) := by
    intro l
    induction l with
    | nil => rfl
    | cons x r ih =>
      cases r with
      | nil =>
        show cd x = cd (x ++ ⟨#[]⟩)
        rw [cd_app]
        simp
      | cons y r =>
        show cd x ++ ([] ++ TL.joinL [] ((y :: r).map cd)) = cd (x ++ glue (y :: r))
        rw [ih, cd_app, List.nil_append]
  exact h2 ys
/-- signs, one text each, put together -/
theorem join_signs (cs : List Nat) : Txt.join "" (cs.map fun c => (⟨#[c]⟩ : Str)) = ⟨cs.toArray⟩ := by
  rw [join_glue0]
  apply cd_inj
  induction cs with
  | nil => rfl
  | cons c r ih =>
    show cd ((⟨#[c]⟩ : Str) ++ glue (r.map fun c => (⟨#[c]⟩ : Str))) = _
    rw [cd_app, ih]
    show [c] ++ (r.toArray).toList = ((c :: r).toArray).toList
    simp
theorem sum_le0 {ys : List Str} {n : Nat} (h : ∀ y ∈ ys, y.length ≤ n) : (ys.map (·.length)).sum ≤ ys.length * n := by
  induction ys with
  | nil => simp
  | cons y r ih =>
    rw [List.map_cons, List.sum_cons, List.length_cons]
    have h1 := h y List.mem_cons_self
    have h2 := ih fun z hz => h z (List.mem_cons_of_mem _ hz)
    have h3 : (r.length + 1) * n = r.length * n + n := by rw [Nat.add_mul, Nat.one_mul]
    omega
theorem vint0 (n : Nat) : (!decide (V.int (n : Nat) = V.int 0)) = !decide (n = 0) := by
  by_cases h : n = 0
  · rw [h]
    rfl
  · rw [decide_eq_false h, decide_eq_false fun z => h (by have := V.int.inj z; omega)]
theorem vN_nonzero (bs : List Nat) : ((vN bs).map fun v => V.bl (!decide (v = .int 0))) = (bs.map fun b => !decide (b = 0)).map V.bl := by
  unfold vN
  rw [List.map_map, List.map_map]
  exact List.map_congr_left fun n _ => congrArg V.bl (vint0 n)
/-- for .. over the keys of a locked dict -/
theorem for_keysL {d : Addr} {o : Obj} {kvs : List (Key × V)} {g : TG} {tb : TS} {D : Ends} {σ : L2.St} {H : Hp} (Pv : Nat → L2.St → Hp → Prop) (h0 : Pv 0 σ H) (locked : ∀ i σ H, i ≤ kvs.length → Pv i σ H → H d = some (.frz o (.dK kvs)))
    (turn : ∀ i k v σ H, kvs[i]? = some (k, v) → Pv i σ H → g (kV k) σ H fun σ2 H2 => tb { D with nx := Pv (i + 1), ct := Pv (i + 1), bk := D.nx } σ2 H2) (after : ∀ σ H, Pv kvs.length σ H → D.nx σ H) :
    ∃ W : Nat → Nat → L2.St → Hp → Prop, (∃ m, W 0 m σ H) ∧ ∀ i m σ H, W i m σ H → ((Itk d o kvs).stop i H ∧ D.nx σ H) ∨
      ((Itk d o kvs).go i H ∧ ∃ N : L2.St → Hp → Prop, (∀ σ' H', N σ' H' → ∃ m', m' < m ∧ W (i + 1) m' σ' H') ∧ ∀ x H', (Itk d o kvs).yld i H x H' → g x σ H' fun σ2 H2 => tb { D with nx := N, ct := N, bk := D.nx } σ2 H2) := by
  refine ⟨fun i m σ H => i + m = kvs.length ∧ Pv i σ H, ⟨kvs.length, by omega, h0⟩, ?_⟩
  rintro i m σ H ⟨e, p⟩
  have lk := locked i σ H (by omega) p
  by_cases lt : i < kvs.length
  · refine .inr ⟨⟨lk, lt⟩, Pv (i + 1), fun σ' H' p' => ⟨m - 1, by omega, by omega, p'⟩, ?_⟩
    rintro x H' ⟨rfl, k, v, at_, rfl⟩
    exact turn i k v σ _ at_ p
  · obtain rfl : i = kvs.length := by omega
    exact .inl ⟨⟨lk, Nat.le_refl _⟩, after σ H p⟩
end Pg

/-! Sets of texts, with their tables: made, added to, sorted. -/
namespace Pg
open PySem PySem.Spec PyProof.Rows L2
/-- an entry's text -/
def txt (e : Int × Value) : Str := match e.2 with
  | .str x _ => x
  | _ => Str.empty
def TxtE (w : World) (e : Int × Value) : Prop := ∃ x tk, e.2 = Value.str x tk ∧ e.1 = hashStr w x
/-- entries and table of a set of texts that can be walked -/
structure Tab (w : World) (es : Array (Int × Value)) (t : SetTable) : Prop where
  txts : ∀ e ∈ es.toList, TxtE w e
  once : (es.toList.map txt).Nodup
  room : es.size < scanBound
  fits : t.fits es.size = true
  ris : Ris t.place.toList
  led : w.params.followText "set-order" = true ∨ t.led = true
/-- a set of texts at a: S its members, n of them -/
def TSet (w : World) (a : Addr) (S : Str → Bool) (n : Nat) (h : Heap) : Prop :=
  ∃ o es ep t, h.get? a = some o ∧ o.ExactSet ∧ o.data = .set es ep t ∧ Tab w es t ∧ es.size = n ∧ ∀ k, S k = true ↔ k ∈ es.toList.map txt
section
variable {P : Program} {w : World} {A : Around} {E : Value → Shared → Prop} {s : Shared} {a : Addr} {S : Str → Bool} {n : Nat}
theorem TSet.at {h h' : Heap} (R : TSet w a S n h) (k : ∀ o, h.get? a = some o → h'.get? a = some o) : TSet w a S n h' :=
  let ⟨o, es, ep, t, ho, r⟩ := R
  ⟨o, es, ep, t, k o ho, r⟩
theorem txts_elems {l : List (Int × Value)} (g : ∀ e ∈ l, TxtE w e) : ElemsOf (PySem.strKind P w) l := by
  intro e he
  obtain ⟨x, tk, h1, h2⟩ := g e he
  rw [h1]
  exact ⟨⟨x, strKind_is P w x tk, h2⟩, rfl⟩
theorem txt_is {e : Int × Value} (g : TxtE w e) (k : Str) : (PySem.strKind P w).is k e.2 = true ↔ txt e = k := by
  obtain ⟨x, tk, h1, _⟩ := g
  unfold txt
  rw [h1]
  simp [PySem.strKind, Value.isStrOf]
theorem txt_in {l : List (Int × Value)} (g : ∀ e ∈ l, TxtE w e) (k : Str) : k ∈ l.map txt ↔ ∃ e ∈ l, (PySem.strKind P w).is k e.2 = true := by
  rw [List.mem_map]
  exact ⟨fun ⟨e, he, q⟩ => ⟨e, he, (txt_is (g e he) k).mpr q⟩, fun ⟨e, he, q⟩ => ⟨e, he, (txt_is (g e he) k).mp q⟩⟩
theorem TSet.setOf {h : Heap} (R : TSet w a S n h) : h.SetOf (PySem.strKind P w) a S n := by
  obtain ⟨o, es, ep, t, ho, hx, hd, T, hn, hm⟩ := R
  exact ⟨o, es, ep, t, ho, hx, hd, txts_elems T.txts, fun k => (hm k).trans (txt_in T.txts k), T.room, T.fits, hn⟩
/-- another order of the entries, another table over them -/
theorem Tab.perm {es es' : Array (Int × Value)} {t t' : SetTable} (T : Tab w es t) (p : es'.toList.Perm es.toList) (f : t'.fits es'.size = true) (r : Ris t'.place.toList) (l : t'.led = t.led) : Tab w es' t' := by
  have sz : es'.size = es.size := by
    have q := p.length_eq
    simpa using q
  refine ⟨fun e he => T.txts e (p.mem_iff.mp he), (p.map txt).nodup_iff.mpr T.once, by rw [sz]; exact T.room, f, r, ?_⟩
  rcases T.led with z | z
  · exact .inl z
  · exact .inr (l.trans z)
/-- what is stored, and once more where the table is too full -/
theorem store_tab {g : Bool → Sem Unit} (quiet : ∀ (b : Bool) (s₁ : Shared) (Q' : Unit → Shared → Prop), Q' () s₁ → wpAny (model P w) A (g b) Q' E s₁) {o : Obj} {es0 : Array (Int × Value)} {ep : Nat} {t0 : SetTable}
    (ho : s.heap.get? a = some o) (hx : o.ExactSet) (hd : o.data = .set es0 ep t0) {es : Array (Int × Value)} {t : SetTable} (T : Tab w es t) (hm : ∀ k, S k = true ↔ k ∈ es.toList.map txt) {was : Bool} {R : Option Bool → Shared → Prop}
    (hR : ∀ h', Heap.SameBut a s.heap h' → TSet w a S es.size h' → R (some true) { s with heap := h' }) :
    wpAny (model P w) A (storeSet a es t >>= fun _ => if (!was && t.tooFull) = true then (g (relayAll t es (SetTable.grown es.size)).2.2 >>= fun _ =>
      storeSet a (relayAll t es (SetTable.grown es.size)).1 (relayAll t es (SetTable.grown es.size)).2.1 >>= fun _ => pure (some true)) else pure (some true)) R E s := by
  have ho1 := store_at (es' := es) (t' := t) ho hd
  have sb1 : Heap.SameBut a s.heap (s.heap.update a (Obj.putSet es t)) := Heap.SameBut.update s.heap a (Obj.putSet es t)
  apply wpAny_bind
  apply wpAny_storeSet_of ho hd ?_ (fits_of_scanBound T.room)
  by_cases full : (!was && t.tooFull) = true
  · rw [if_pos full]
    obtain ⟨es2, t2, gave⟩ : ∃ es2 t2, es2 = (relayAll t es (SetTable.grown es.size)).1 ∧ t2 = (relayAll t es (SetTable.grown es.size)).2.1 := ⟨_, _, rfl, rfl⟩
    have p := relayAll_perm t es (SetTable.grown es.size)
    have T2 : Tab w es2 t2 := by
      rw [gave.1, gave.2]
      exact T.perm p (relayAll_fits t es _) (relayAll_ris t es _) (relayAll_led t es _)
    rw [← gave.1] at p
    have sz : es2.size = es.size := by
      have q := p.length_eq
      simpa using q
    apply wpAny_bind
    apply quiet
    apply wpAny_bind
    rw [← gave.1, ← gave.2]
    apply wpAny_storeSet_of ho1 rfl ?_ (fits_of_scanBound T2.room)
    apply wpAny_pure
    apply hR _ (sb1.trans (Heap.SameBut.update _ a _))
    exact ⟨_, es2, _, t2, store_at (es' := es2) (t' := t2) ho1 rfl, hx, rfl, T2, sz, fun k => (hm k).trans (p.map txt).mem_iff.symm⟩
  · rw [if_neg full]
    apply wpAny_pure
    exact hR _ sb1 ⟨_, es, _, t, ho1, hx, rfl, T, rfl, hm⟩
/-- one text more, its hash given -/
theorem tset_put {k : Str} {tk : Tok} {Q : Bool → Shared → Prop} (R : TSet w a S n s.heap) (small : n + 1 < scanBound)
    (hQ : ∀ h', Heap.SameBut a s.heap h' → TSet w a (fun j => S j || decide (j = k)) (if S k = true then n else n + 1) h' → Q (!S k) { s with heap := h' }) :
    wpAny (model P w) A (setAddHashed a (.str k tk) ((PySem.strKind P w).hash k)) Q E s := by
  obtain ⟨o, es, ep, t, ho, hx, hd, T, hn, hm⟩ := R
  have is_k : (PySem.strKind P w).is k (.str k tk) = true := strKind_is P w k tk
  have scan : (Value.str k tk).scannable = true := rfl
  have elems : ElemsOf (PySem.strKind P w) es.toList := txts_elems T.txts
  have way : ∀ (b : Bool) {s₁ : Shared} {Q' : Unit → Shared → Prop}, Q' () s₁ → wpAny (model P w) A (match b with | true => rule "set.scan.the-table-gave-way" | false => pure ()) Q' E s₁ := by
    intro b s₁ Q' q
    cases b
    · exact wpAny_pure q
    · exact wpAny_rule q
  unfold setAddHashed setAddHashedIn
  apply wpAny_holding
  apply wpAny_bind
  apply wpAny_setState_of ho hd T.fits
  simp only []
  rw [byScan_of scan T.room elems, if_pos rfl]
  unfold setAddByScan
  apply wpAny_bind
  apply wpAny_bind
  apply wpAny_rule
  apply wpAny_bind
  apply wpAny_setScan_of is_k ho hd T.fits elems
  cases found : List.findIdx? (fun e => (PySem.strKind P w).is k e.2) es.toList with
  | some j =>
    obtain ⟨hj, pj, _⟩ := List.findIdx?_eq_some_iff_getElem.mp found
    have old : S k = true := (hm k).mpr ((txt_in (P := P) T.txts k).mpr ⟨_, List.getElem_mem hj, pj⟩)
    have fin := hQ s.heap (Heap.SameBut.refl a s.heap) ⟨o, es, ep, t, ho, hx, hd, T, by rw [if_pos old]; exact hn, fun i => by
      rw [← hm i, Bool.or_eq_true, decide_eq_true_eq]
      constructor
      · rintro (z | rfl)
        · exact z
        · exact old
      · exact .inl⟩
    rw [old] at fin
    exact wpAny_pure (wpAny_pure fin)
  | none =>
    have new : k ∉ es.toList.map txt := by
      intro z
      obtain ⟨e, he, q⟩ := (txt_in (P := P) T.txts k).mp z
      rw [List.findIdx?_eq_none_iff] at found
      rw [found e he] at q
      cases q
    have notS : S k = false := by
      rw [← Bool.not_eq_true, hm k]
      exact new
    obtain ⟨es1, t1, was, gave, eZ⟩ : ∃ es1 t1 was gave, layNew t es ((PySem.strKind P w).hash k) (.str k tk) = (es1, t1, was, gave) := ⟨_, _, _, _, rfl⟩
    have p := layNew_perm t es ((PySem.strKind P w).hash k) (.str k tk)
    have f1 := layNew_fits t es ((PySem.strKind P w).hash k) (.str k tk)
    have r1 := layNew_ris t es ((PySem.strKind P w).hash k) (.str k tk) T.ris
    have l1 := layNew_led t es ((PySem.strKind P w).hash k) (.str k tk)
    rw [eZ] at p f1 r1 l1
    simp only [] at p f1 r1 l1
    rw [eZ]
    simp only []
    have pc : es1.toList.Perm (((PySem.strKind P w).hash k, Value.str k tk) :: es.toList) := by
      rw [Array.toList_push] at p
      exact p.trans (List.perm_append_singleton _ _)
    have pt : (es1.toList.map txt).Perm (k :: es.toList.map txt) := pc.map txt
    have sz : es1.size = n + 1 := by
      have q := pc.length_eq
      rw [List.length_cons, Array.length_toList, Array.length_toList, hn] at q
      exact q
    have led1 : w.params.followText "set-order" = true ∨ t1.led = true := by
      rcases T.led with z | z
      · exact .inl z
      · exact .inr (l1.trans z)
    have tab : ∀ t2 : SetTable, t2.fits es1.size = true → Ris t2.place.toList → (w.params.followText "set-order" = true ∨ t2.led = true) → Tab w es1 t2 := fun t2 f r l => {
      txts := fun e he => by
        rcases List.mem_cons.mp (pc.mem_iff.mp he) with rfl | z
        · exact ⟨k, tk, rfl, rfl⟩
        · exact T.txts e z
      once := pt.nodup_iff.mpr (List.nodup_cons.mpr ⟨new, T.once⟩)
      room := by rw [sz]; exact small
      fits := f
      ris := r
      led := l }
    have mem1 : ∀ i, (S i || decide (i = k)) = true ↔ i ∈ es1.toList.map txt := by
      intro i
      rw [pt.mem_iff, List.mem_cons, ← hm i, Bool.or_eq_true, decide_eq_true_eq]
      exact Or.comm
    have fin : ∀ h', Heap.SameBut a s.heap h' → TSet w a (fun j => S j || decide (j = k)) es1.size h' → Q true { s with heap := h' } := by
      intro h' sb r
      have q := hQ h' sb
      rw [notS] at q
      rw [sz] at r
      exact q r
    apply wpAny_bind
    apply way
    split
    · refine wpAny_bind ?_
      rw [hashByValue_scannable 8 scan]
      refine wpAny_pure ?_
      obtain ⟨t2, e2, f2, r2, l2⟩ : ∃ t2, (if plainKind (Value.str k tk) = true then t1 else { t1 with plain := false }) = t2 ∧ t2.fits es1.size = true ∧ Ris t2.place.toList ∧ (w.params.followText "set-order" = true ∨ t2.led = true) := by
        refine ⟨_, rfl, ?_⟩
        split
        · exact ⟨f1, r1, led1⟩
        · exact ⟨SetTable.fits_plain_off f1, r1, led1⟩
      rw [e2]
      refine store_tab (t := t2) ?way ho hx hd (tab _ f2 r2 l2) mem1 fun h' sb r => wpAny_pure (fin h' sb r)
      intro b s₁ Q' q
      cases b <;> first | exact wpAny_pure q | exact wpAny_rule q
    · refine wpAny_bind (wpAny_pure ?_)
      simp only [if_true]
      refine store_tab (t := t1) ?way2 ho hx hd (tab _ f1 r1 led1) mem1 fun h' sb r => wpAny_pure (fin h' sb r)
      intro b s₁ Q' q
      cases b <;> first | exact wpAny_pure q | exact wpAny_rule q
theorem tset_empty {h : Heap} (w : World) : TSet w h.objs.size (fun _ => false) 0 (h.push { cls := .type "set", dict := none, data := .set #[] 0 (.fresh 0 0 (!w.params.followText "set-order")) }) := by
  refine ⟨_, #[], 0, _, Heap.get?_push_size _ rfl, ⟨rfl, rfl, rfl⟩, rfl, ⟨fun e he => by simp at he, List.nodup_nil, by decide, by rfl, List.Pairwise.nil, ?_⟩, rfl, fun k => by simp⟩
  cases e : w.params.followText "set-order" with
  | true => exact .inl rfl
  | false => exact .inr rfl
/-- D.add(k) as it is called -/
theorem tset_add {k : Str} {tk : Tok} {Q : Value → Shared → Prop} (R : TSet w a S n s.heap) (small : n + 1 < scanBound)
    (hQ : ∀ h', Heap.SameBut a s.heap h' → TSet w a (fun j => S j || decide (j = k)) (if S k = true then n else n + 1) h' → Q .none { s with heap := h', toks := s.toks + 1 }) :
    wpAny (model P w) A (call (.builtin "set.add") [.ref a, .str k tk]) Q E s := by
  have so : s.heap.SetOf (PySem.strKind P w) a S n := R.setOf
  apply wpAny_call_entry F.slot_set_add so.typeIs F.entry_set_add ?_ (F.args_set_add_2 _ _)
  unfold Builtin.«set.add» Builtin.Frozenset.oneOther
  simp only [List.isEmpty_nil, bind_assoc]
  unfold Builtin.Frozenset.addrOf setAdd
  refine wpAny_bind (wpAny_pure ?_)
  try dsimp only
  refine wpAny_bind (wpAny_pure ?_)
  try dsimp only
  apply wpAny_bind
  apply wpAny_holding
  apply wpAny_bind
  apply (PySem.strKind P w).pyHash (strKind_is P w k tk)
  apply tset_put (s := { s with toks := s.toks + 1 }) R small
  intro h' sb r
  show wpAny _ _ (ret Value.none) _ _ _
  exact wpAny_pure ⟨_, rfl, hQ h' sb r⟩
theorem txts_are : ∀ (l : List Value), (∀ v ∈ l, ∃ x tk, v = Value.str x tk) → StrsAre l (l.map fun v => txt (0, v))
  | [], _ => .nil
  | v :: l, h => by
    obtain ⟨x, tk, rfl⟩ := h v List.mem_cons_self
    exact .cons x tk (txts_are l fun u hu => h u (List.mem_cons_of_mem _ hu))
/-- sorted of such a set -/
theorem tset_sorted {Q : Value → Shared → Prop} (R : TSet w a S n s.heap) (hh : A.handled = none)
    (hQ : ∀ s' p (out : Array Value) (c : Nat) (xs : List Str), (∀ b o, s.heap.get? b = some o → s'.heap.get? b = some o) → s'.gens = s.gens → s'.os = s.os → s.heap.objs.size ≤ p →
      s'.heap.get? p = some (seqObj "list" out c) → StrsAre out.toList xs → xs.Nodup → sortedS xs = true → (∀ k, k ∈ xs ↔ S k = true) → xs.length = n → Q (.ref p) s') :
    wpAny (model P w) A (call (.builtin "sorted") [.ref a]) Q E s := by
  obtain ⟨o, es, ep, t, ho, hx, hd, T, hn, hm⟩ := R
  apply Calls.call_function_entry kind_sorted plain_sorted entry_sorted (args_sorted1 _)
  unfold Builtin.«sorted»
  refine wpAny_bind (m := checkCount "sorted" 1 1 _) (wpAny_pure ?_)
  apply wpAny_bind
  apply collect_set (A := A.in1) hh ⟨o, ho, hx.1, hd⟩ T.fits T.room T.ris T.led
  intro s1 vs k1 z1 g1 o1 pm
  have len : vs.length = n := by
    have q := pm.length_eq
    rw [List.length_map] at q
    exact q.trans hn
  have few : vs.length ≤ sizeLine := by
    rw [len, ← hn]
    exact fits_of_scanBound T.room
  have are : StrsAre vs (vs.map fun v => txt (0, v)) := txts_are vs fun v hv => by
    obtain ⟨e, he, q⟩ := List.mem_map.mp (pm.mem_iff.mp hv)
    obtain ⟨x, tk, h1, _⟩ := T.txts e he
    exact ⟨x, tk, by rw [← q]; exact h1⟩
  have names : (vs.map fun v => txt (0, v)).Perm (es.toList.map txt) := by
    have q := pm.map fun v => txt (0, v)
    rw [List.map_map] at q
    exact q
  apply wpAny_bind
  apply wpAny_newList ?_ few
  have hoL : (s1.heap.push (seqObj "list" vs.toArray 0)).get? s1.heap.objs.size = some (seqObj "list" vs.toArray 0) := Heap.get?_push_size _ rfl
  apply wpAny_bind
  apply wpAny_holding
  refine wpAny_call_entry slot_list_sort ⟨_, hoL, rfl⟩ entry_list_sort (list_sort_treeKAny strKind_oneLt hoL are.keysOf (fun v₁ v₂ rest e => keyKind_strs (by rw [← e]; exact are)) few fun st' hp hs => ⟨_, rfl, ?_⟩) (args_list_sort _)
  obtain ⟨xs, a1, a2, a3⟩ := sorted_out_str are hp hs
  obtain ⟨c, hc⟩ := sortedHeap_at (vs := vs) (out := (arrOf st').map (·.2)) hoL
  have all : xs.Perm (es.toList.map txt) := a2.trans names
  refine wpAny_pure ⟨_, rfl, hQ _ s1.heap.objs.size _ c xs (fun b u e => ?_) g1 o1 z1 hc a1 (all.nodup_iff.mpr T.once) a3 (fun k => by rw [all.mem_iff, hm k]) ?_⟩
  · have q := k1 b u e
    have lt := Heap.lt_size q
    show (sortedHeap (s1.heap.push (seqObj "list" vs.toArray 0)) s1.heap.objs.size vs _).get? b = some u
    rw [sortedHeap_old (Nat.ne_of_lt lt) (by rw [size_push']; exact Nat.lt_succ_of_lt lt)]
    exact Heap.get?_push_of_some _ q
  · have q := all.length_eq
    rw [List.length_map] at q
    exact q.trans hn
end
/-- such a set in the layer -/
def TS (w : World) (a : Addr) (S : Str → Bool) (n : Nat) : HO := .ext (TSet w a S n)
theorem ts_ok {w : World} {P : Program} {H : Hp} {h : Heap} {a : Addr} {S : Str → Bool} {n : Nat} (R : TSet w a S n h) : ObjOk P w H h a (TS w a S n) :=
  ⟨R, let ⟨o, _, _, _, ho, _⟩ := R; ⟨o, ho⟩, fun _ _ p k => p.at k⟩
section
variable {X : Cx} {pins : List (Addr × Obj)} {σ : L2.St} {H : Hp} {s : Shared} {E : Value → Shared → Prop}
theorem ts_get {a : Addr} {S : Str → Bool} {n : Nat} (I : Inv X pins σ H s) (ha : H a = some (TS X.w a S n)) : TSet X.w a S n s.heap := (I.hok a _ ha).1
theorem ts_add {D : Addr} {S : Str → Bool} {n : Nat} {k : Str} {tk : Tok} {Q : Value → Shared → Prop} (I : Inv X pins σ H s) (hD : H D = some (TS X.w D S n)) (room : n + 1 < scanBound)
    (h : ∀ s', Inv X pins σ (upd H D (TS X.w D (fun j => S j || decide (j = k)) (if S k = true then n else n + 1))) s' → Q .none s') : wpAny (model X.prog X.w) X.A (call (.builtin "set.add") [.ref D, .str k tk]) Q E s := by
  apply tset_add (ts_get I hD) room
  intro h' sb new
  have there : ∃ u, h'.get? D = some u := let ⟨o, _, _, _, ho, _⟩ := new; ⟨o, ho⟩
  exact h _ (I.write (e := D) (t' := s.toks + 1) (by rw [hD]; trivial) (.inl rfl) (fun b u hb hu => (sb.2 b hb).trans hu) there (ts_ok new))
/-- sorted(D) -/
def rSortedT (w : World) : List V → Hp → VK → Prop := fun vs H Q => ∃ (a : Addr) (S : Str → Bool) (n : Nat), vs = [V.ref a] ∧ H a = some (TS w a S n) ∧ n ≤ 100000 ∧
  ∀ (xs : List Str) (p : Addr), sortedS xs = true → xs.Nodup → (∀ k, k ∈ xs ↔ S k = true) → xs.length = n → H p = none → Q (.ref p) (upd H p (.lst (xs.map V.str)))
theorem cr_sortedT (hc : X.calm = true) : CallR X (.builtin "sorted") (rSortedT X.w) := by
  intro pins s σ H vs us Q I r h
  obtain ⟨a, S, n, rfl, ha, few, q⟩ := h
  rw [Vals.ref1 r]
  apply tset_sorted (ts_get I ha) (I.ok.hd hc)
  intro s' p out c xs kp gn os big at_p are nd sd mem len
  have small : (xs.map V.str).length ≤ sizeLine := by
    rw [List.length_map, len, sizeLine_eq]
    omega
  have np : H p = none := I.hok.fresh big
  obtain ⟨hp', gn', dr', tk', os'⟩ := s'
  obtain rfl : os' = s.os := os
  have J : Inv X pins σ (upd H p (.lst (xs.map V.str))) ⟨hp', gn', dr', tk', s.os⟩ :=
    I.call (ch := []) (Un.laid kp big np) (I.hok.laid kp big ⟨small, out.toList, c, vals_of_strs are, at_p⟩) (by rw [show gn' = s.gens from gn]; exact I.bare) (fun _ z => nomatch z)
  exact ⟨.ref p, _, J, rfl, q xs p sd nd mem len np⟩
end
end Pg

/-! A clause of a comprehension, by itself; {e for a in x for b in y}, e a text. -/
namespace Pg
open PySem PySem.Spec PyProof.Rows L2
/-- the tests of a clause -/
def tst (env : Env) (ifs : List Expr) : Sem Bool := forIn ifs true fun c r => if r = true then (isTrue c env (eval c env) >>= fun ok => pure (ForInStep.yield ok)) else pure (ForInStep.yield r)
/-- one step of a clause: its iterator, its target, its tests -/
def walked (M : Model) (A : Around) (env : Env) (tg : Expr) (ifs : List Expr) (it : Value) (stop : Shared → Prop) (go : Bool → Shared → Prop) (N : Value → Shared → Prop) (s : Shared) : Prop :=
  wpAny M A (pyNext it) (fun r s1 => match r with
    | none => stop s1
    | some v => wpAny M A (letOwnedTupleGo tg it v) (fun _ s2 => wpAny M A (assign tg env v) (fun _ s3 => wpAny M A (tst env ifs) go N s3) N s2) N s1) N s
section
variable {Y : Cx} {tg : Expr} {ifs : List Expr} {g : TG} {tt : TT} {J : It} {fp : List Addr} {it : Addr} {tn : Nat → Heap → Prop} {pins : List (Addr × Obj)}
/-- what is left of a place of an iterator but that the heap has nothing there -/
def Apart (Y : Cx) (pins : List (Addr × Obj)) (b : Addr) : Prop := ∀ H : Hp, H b = none → FpOk Y pins H b
theorem apart_of {H : Hp} {b : Addr} (f : FpOk Y pins H b) : Apart Y pins b := fun _ n => ⟨n, f.2⟩
theorem clause (hc : Y.calm = true) (hx : Y.xe = fun _ _ => False) (pg : PG Y tg g) (pt : PTs Y ifs tt) (T : Turn Y.prog Y.w Y.K tg J fp it tn) {i : Nat} {σ : L2.St} {H : Hp} {s : Shared} {N : Value → Shared → Prop} (I : Inv Y pins σ H s) (st : tn i s.heap)
    (ap : ∀ b ∈ fp, Apart Y pins b) (nf : ∀ b ∈ fp, H b = none) {stop : Shared → Prop} {go : Bool → Shared → Prop} {C : L2.St → Hp → Bool → Prop}
    (h : (J.stop i H ∧ ∀ s', Inv Y pins σ H s' → stop s') ∨ (J.go i H ∧ (∀ x H', J.yld i H x H' → g x σ H' fun σ2 H2 => tt σ2 H2 fun b H3 => C σ2 H3 b) ∧
      ∀ (s7 : Shared) (σ2 : L2.St) (H3 : Hp) (b : Bool) (s' : Shared), tn (i + 1) s7.heap → Inv Y (pins ++ pinsAt fp s7.heap) σ2 H3 s' → C σ2 H3 b → go b s')) :
    walked (model Y.prog Y.w) Y.A Y.env tg ifs (.ref it) stop go N s := by
  have fo : ∀ b ∈ fp, FpOk Y pins H b := fun b hb => ap b hb H (nf b hb)
  unfold walked
  rcases h with ⟨ends, hs⟩ | ⟨goes, hy, hg⟩
  · apply thnF (T.done Y rfl rfl rfl hc i pins s σ H (fun _ _ => False) I fo st ends)
    rintro r s1 ⟨rfl, I1⟩
    exact hs s1 I1
  · apply thnF (T.item Y rfl rfl rfl hc i pins s σ H (fun _ _ => False) I fo st goes)
    rintro r s1 ⟨u, rfl, h1⟩
    apply thnF h1
    rintro _ s7 ⟨x, H7, I7, r7, y7, st7, n7⟩
    have I8 := I7.pinned (fun b hb => ap b hb H7 (n7 b hb)) (T.obj _ _ st7)
    have a1 := pg.run _ s7 σ H7 x u _ I8 r7 (hy x H7 y7)
    rw [hx] at a1
    apply thnF a1
    rintro _ s8 ⟨σ8, H8, I9, q8⟩
    have a2 := pt.run _ s8 σ8 H8 _ I9 q8
    rw [hx] at a2
    apply thnF a2
    rintro b s9 ⟨H9, I10, q9⟩
    exact hg s7 σ8 H9 b s9 st7 I10 q9
/-- back at the clause's next step -/
theorem next_step (T : Turn Y.prog Y.w Y.K tg J fp it tn) {i : Nat} {σ σ2 : L2.St} {H' : Hp} {s7 s' : Shared} (st : tn i s7.heap) (I : Inv Y (pins ++ pinsAt fp s7.heap) σ2 H' s') (len : σ.length = σ2.length) (kn : ∀ (j : Nat) v, σ[j]? = some (some v) → σ2[j]? = some (some v)) :
    Inv Y pins σ H' s' ∧ tn i s'.heap ∧ ∀ b ∈ fp, H' b = none := by
  have kept : ∀ b ∈ fp, ∀ o, s7.heap.get? b = some o → s'.heap.get? b = some o ∧ H' b = none := by
    intro b hb o e
    have z := I.pin (b, o) (List.mem_append_right _ (List.mem_append_right _ (mem_pinsAt hb e)))
    exact ⟨z.1, z.2.1⟩
  refine ⟨I.unpinned.weak len kn, T.keep _ _ _ st fun b hb o e => (kept b hb o e).1, fun b hb => ?_⟩
  obtain ⟨o, e, _⟩ := T.obj _ _ st b hb
  exact (kept b hb o e).2
end
/-! ### the code of a set comprehension of two clauses -/
/-- {e for t0 in i0 if .. for t1 in i1 if ..} -/
abbrev SC (e t0 i0 : Expr) (ifs0 : List Expr) (t1 i1 : Expr) (ifs1 : List Expr) (scope : Scope) (pos : Pos) : Expr := .SetComp e [⟨t0, i0, ifs0, 0⟩, ⟨t1, i1, ifs1, 0⟩] scope pos
section
variable {prog : Program} {w : World} {A : Around} {R : Result → Shared → Prop} {s : Shared} {e t0 i0 t1 i1 : Expr} {ifs0 ifs1 : List Expr} {scope : Scope} {pos : Pos} {it acc : Value} {env : Env}
theorem turn_out : compTurn (SC e t0 i0 ifs0 t1 i1 ifs1 scope pos) 0 it acc env = (standAt i0.pos >>= fun _ => pyNext it >>= fun r => match r with
    | none => pure (.done .next)
    | some v => letOwnedTupleGo t0 it v >>= fun _ => assign t0 env v >>= fun _ => tst env ifs0 >>= fun ok =>
      if ok = true then (eval i1 env >>= fun x => standAt i1.pos >>= fun _ => foldedSetIterable i1 env x >>= fun x => holding [x] (pyIter x) >>= fun it1 =>
        runOwn (.compStart (SC e t0 i0 ifs0 t1 i1 ifs1 scope pos) 1 it1 acc env) env >>= fun _ => again (.compLoop (SC e t0 i0 ifs0 t1 i1 ifs1 scope pos) 0 it acc env))
      else again (.compLoop (SC e t0 i0 ifs0 t1 i1 ifs1 scope pos) 0 it acc env)) := by
  rfl
theorem turn_in : compTurn (SC e t0 i0 ifs0 t1 i1 ifs1 scope pos) 1 it acc env = (standAt i1.pos >>= fun _ => pyNext it >>= fun r => match r with
    | none => pure (.done .next)
    | some v => letOwnedTupleGo t1 it v >>= fun _ => assign t1 env v >>= fun _ => tst env ifs1 >>= fun ok =>
      if ok = true then ((eval e env >>= fun v => standAt e.pos >>= fun _ => call (.builtin "set.add") [acc, v] >>= fun _ => pure ()) >>= fun _ => again (.compLoop (SC e t0 i0 ifs0 t1 i1 ifs1 scope pos) 1 it acc env))
      else again (.compLoop (SC e t0 i0 ifs0 t1 i1 ifs1 scope pos) 1 it acc env)) := by
  rfl
/-- how an error leaves the block -/
abbrev noted (prog : Program) (w : World) (A : Around) (env : Env) (R : Result → Shared → Prop) : Value → Shared → Prop := notedBy (model prog w) A env fun x s' => R (.error x) s'
theorem loop_out (plain : ∀ x, foldedSetIterable i1 env x = pure x) (Iv : Nat → Shared → Prop)
    (turn : ∀ n s, Iv n s → walked (model prog w) A env t0 ifs0 it (R (.ok .next)) (fun ok s3 =>
      if ok = true then wpAny (model prog w) A (eval i1 env) (fun x s4 => wpAny (model prog w) A (pyIter x) (fun it1 s5 => codeAny (model prog w) A (.compStart (SC e t0 i0 ifs0 t1 i1 ifs1 scope pos) 1 it1 acc env)
        (fun r s' => match r with
          | .ok _ => ∃ m, m < n ∧ Iv m s'
          | .error _ => False) s5) (noted prog w A env R) s4) (noted prog w A env R) s3
      else ∃ m, m < n ∧ Iv m s3) (noted prog w A env R) s) (n : Nat) (h : Iv n s) :
    codeAny (model prog w) A (.compLoop (SC e t0 i0 ifs0 t1 i1 ifs1 scope pos) 0 it acc env) R s := by
  apply codeAny_loop rfl Iv ?_ n h
  intro n s hI
  show wpAny _ A ((compTurn (SC e t0 i0 ifs0 t1 i1 ifs1 scope pos) 0 it acc env).onRaise (fun x => do noteFrame x env; theTreesLotGoes x)) _ _ s
  apply wpAny_noted
  rw [turn_out]
  apply wpAny_bind
  apply wpAny_standAt
  apply wpAny_bind
  apply wpAny_mono (turn n s hI) ?_ (fun _ _ z => z)
  intro r s1 h1
  match r, h1 with
  | none, h1 => exact wpAny_pure h1
  | some v, h1 =>
    apply wpAny_bind
    apply wpAny_mono h1 ?_ (fun _ _ z => z)
    intro _ s2 h2
    apply wpAny_bind
    apply wpAny_mono h2 ?_ (fun _ _ z => z)
    intro _ s3 h3
    apply wpAny_bind
    apply wpAny_mono h3 ?_ (fun _ _ z => z)
    intro ok s4 h4
    cases ok with
    | false => exact wpAny_pure ⟨rfl, h4⟩
    | true =>
      show wpAny _ _ (eval i1 env >>= _) _ _ _
      apply wpAny_bind
      apply wpAny_mono h4 ?_ (fun _ _ z => z)
      intro x s5 h5
      apply wpAny_bind
      apply wpAny_standAt
      apply wpAny_bind
      apply wpAny_of_eq (plain x)
      apply wpAny_bind
      apply wpAny_holding
      apply wpAny_mono h5 ?_ (fun _ _ z => z)
      intro it1 s6 h6
      apply wpAny_bind
      refine wpAny_runOwn ?_
      rw [Around.mark_none]
      apply codeAny_mono h6
      intro r s7 h7
      match r, h7 with
      | .error _, h7 => exact h7.elim
      | .ok _, h7 =>
        first
          | exact wpAny_pure ⟨rfl, h7⟩
          | exact wpAny_bind (wpAny_pure (wpAny_pure ⟨rfl, h7⟩))
theorem loop_in (Iv : Nat → Shared → Prop)
    (turn : ∀ n s, Iv n s → walked (model prog w) A env t1 ifs1 it (R (.ok .next)) (fun ok s3 =>
      if ok = true then wpAny (model prog w) A (eval e env) (fun x s4 => wpAny (model prog w) A (call (.builtin "set.add") [acc, x]) (fun _ s5 => ∃ m, m < n ∧ Iv m s5) (noted prog w A env R) s4) (noted prog w A env R) s3
      else ∃ m, m < n ∧ Iv m s3) (noted prog w A env R) s) (n : Nat) (h : Iv n s) :
    codeAny (model prog w) A (.compLoop (SC e t0 i0 ifs0 t1 i1 ifs1 scope pos) 1 it acc env) R s := by
  apply codeAny_loop rfl Iv ?_ n h
  intro n s hI
  show wpAny _ A ((compTurn (SC e t0 i0 ifs0 t1 i1 ifs1 scope pos) 1 it acc env).onRaise (fun x => do noteFrame x env; theTreesLotGoes x)) _ _ s
  apply wpAny_noted
  rw [turn_in]
  apply wpAny_bind
  apply wpAny_standAt
  apply wpAny_bind
  apply wpAny_mono (turn n s hI) ?_ (fun _ _ z => z)
  intro r s1 h1
  match r, h1 with
  | none, h1 => exact wpAny_pure h1
  | some v, h1 =>
    apply wpAny_bind
    apply wpAny_mono h1 ?_ (fun _ _ z => z)
    intro _ s2 h2
    apply wpAny_bind
    apply wpAny_mono h2 ?_ (fun _ _ z => z)
    intro _ s3 h3
    apply wpAny_bind
    apply wpAny_mono h3 ?_ (fun _ _ z => z)
    intro ok s4 h4
    cases ok with
    | false => exact wpAny_pure ⟨rfl, h4⟩
    | true =>
      apply wpAny_bind
      apply wpAny_bind
      apply wpAny_mono h4 ?_ (fun _ _ z => z)
      intro x s5 h5
      apply wpAny_bind
      apply wpAny_standAt
      apply wpAny_bind
      apply wpAny_mono h5 ?_ (fun _ _ z => z)
      intro _ s6 h6
      exact wpAny_pure (wpAny_pure ⟨rfl, h6⟩)
/-- how the second clause begins -/
theorem start_in (h0 : codeAny (model prog w) A (.compLoop (SC e t0 i0 ifs0 t1 i1 ifs1 scope pos) 1 it acc env) R s)
    (h : wpAny (model prog w) A (pyIter it) (fun it' s' => codeAny (model prog w) A (.compLoop (SC e t0 i0 ifs0 t1 i1 ifs1 scope pos) 1 it' acc env) R s') (noted prog w A env R) s) :
    codeAny (model prog w) A (.compStart (SC e t0 i0 ifs0 t1 i1 ifs1 scope pos) 1 it acc env) R s := by
  apply codeAny_of_tree
  show wpAny _ _ ((compStart (SC e t0 i0 ifs0 t1 i1 ifs1 scope pos) 1 it acc env).onRaise (fun x => do noteFrame x env; standAt theWindowsPlace)) _ _ s
  apply wpAny_notedAt
  unfold compStart
  show wpAny _ _ (ask >>= _) _ _ s
  apply wpAny_bind
  apply wpAny_askSetting
  apply wpAny_ite
  split
  · first
      | exact wpAny_bind (wpAny_pure (wpAny_pure ⟨rfl, h0⟩))
      | exact wpAny_pure ⟨rfl, h0⟩
  · first
      | exact wpAny_bind (wpAny_rule (wpAny_bind (wpAny_standAt (wpAny_bind (wpAny_mono h (fun _ _ z => wpAny_pure ⟨rfl, z⟩) fun _ _ z => z)))))
      | (apply wpAny_bind; apply wpAny_rule; show wpAny _ _ (standAt i1.pos >>= _) _ _ s; exact wpAny_bind (wpAny_standAt (wpAny_bind (wpAny_mono h (fun _ _ z => wpAny_pure ⟨rfl, z⟩) fun _ _ z => z))))
end
section
variable {X : Cx}
/-- what the two clauses ask, D the new set: W of the outer steps, for each of them W1 of the inner ones -/
def tSc2 (w : World) (wi : TI) (g : TG) (tt : TT) (wi1 : TI) (g1 : TG) (tt1 : TT) (te : TE) (vs vs1 : List Nat) : TE := fun σ H Q => wi σ H fun J H1 => ∀ D, H1 D = none →
  ∃ W : Nat → Nat → Hp → Prop, (∃ m, W 0 m (upd H1 D (TS w D (fun _ => false) 0))) ∧ ∀ i m H, W i m H → (J.stop i H ∧ Q (.ref D) H) ∨ (J.go i H ∧
    ∃ Nx : Hp → Prop, (∀ H', Nx H' → ∃ m', m' < m ∧ W (i + 1) m' H') ∧ ∀ x H', J.yld i H x H' → g x (wipe σ vs) H' fun σ2 H2 => tt σ2 H2 fun b H3 => wipe σ2 vs = wipe σ vs ∧
      ((b = false → Nx H3) ∧ (b = true → wi1 σ2 H3 fun J1 H4 => ∃ W1 : Nat → Nat → Hp → Prop, (∃ k, W1 0 k H4) ∧ ∀ j k H, W1 j k H → (J1.stop j H ∧ Nx H) ∨ (J1.go j H ∧
        ∃ Nx1 : Hp → Prop, (∀ H', Nx1 H' → ∃ k', k' < k ∧ W1 (j + 1) k' H') ∧ ∀ x H', J1.yld j H x H' → g1 x (wipe σ2 vs1) H' fun σ3 H5 => tt1 σ3 H5 fun b H6 => wipe σ3 vs1 = wipe σ2 vs1 ∧
          ((b = false → Nx1 H6) ∧ (b = true → te σ3 H6 fun y H7 => ∃ (z : Str) (S : Str → Bool) (n : Nat), y = .str z ∧ H7 D = some (TS w D S n) ∧ n + 1 < scanBound ∧
            Nx1 (upd H7 D (TS w D (fun j => S j || decide (j = z)) (if S z = true then n else n + 1)))))))))
theorem pe_sc2 {e t0 i0 t1 i1 : Expr} {ifs0 ifs1 : List Expr} {scope : Scope} {own : List (Str × Nat)} {vs1 : List Nat} {pos : Pos} {wi wi1 : TI} {g g1 : TG} {tt tt1 : TT} {te : TE} (hc : X.calm = true) (hN : X.N.Nodup) (hi : PI X t0 i0 wi)
    (ok : BlkOk X.N X.env.scope scope own) (hv : ∀ i ∈ vs1, i ∈ own.map (·.2))
    (hg : ∀ (s : Shared) (H : Hp) (C : Addr) (cl : List (Str × Addr)) (fp : List Addr), PG (X.blk s H scope (compEnvC scope cl C X.env) fp) t0 g)
    (ht : ∀ (s : Shared) (H : Hp) (C : Addr) (cl : List (Str × Addr)) (fp : List Addr), PTs (X.blk s H scope (compEnvC scope cl C X.env) fp) ifs0 tt)
    (hi1 : ∀ (s : Shared) (H : Hp) (C : Addr) (cl : List (Str × Addr)) (fp : List Addr), PI (X.blk s H scope (compEnvC scope cl C X.env) fp) t1 i1 wi1)
    (hg1 : ∀ (s : Shared) (H : Hp) (C : Addr) (cl : List (Str × Addr)) (fp : List Addr), PG (X.blk s H scope (compEnvC scope cl C X.env) fp) t1 g1)
    (ht1 : ∀ (s : Shared) (H : Hp) (C : Addr) (cl : List (Str × Addr)) (fp : List Addr), PTs (X.blk s H scope (compEnvC scope cl C X.env) fp) ifs1 tt1)
    (he : ∀ (s : Shared) (H : Hp) (C : Addr) (cl : List (Str × Addr)) (fp : List Addr), PE (X.blk s H scope (compEnvC scope cl C X.env) fp) e te)
    (plain : ∀ x, foldedSetIterable i0 X.env x = pure x := by intro _; rfl) (plain1 : ∀ env x, foldedSetIterable i1 env x = pure x := by intro _ _; rfl) :
    PE X (SC e t0 i0 ifs0 t1 i1 ifs1 scope pos) (tSc2 X.w wi g tt wi1 g1 tt1 te (own.map (·.2)) vs1) := by
  refine ⟨fun pins s σ H Q I h => ?_⟩
  have free : ∀ y ∈ scope.names, y.2 = .free → ∃ c, X.env.cells.lookup y.1 = some c := fun y hy q => by
    rcases ok.free y hy q with k | k
    · exact I.ok.has _ (.inl k)
    · exact I.ok.has _ (.inr k)
  rw [PpSet.eval_SetComp]
  refine wpAny_comprehension_free rfl plain (closure_ok free) ok.kind (fun y hy q => by rw [ok.uniq y hy, q]) ?_
  refine thn (hi.run pins s σ H _ I h) fun xv u1 hx => thn hx fun itv u2 hit => ?_
  clear hx
  obtain ⟨it, fp, tn, J, G2, rfl, K2, T, st2, fo2, q⟩ := hit
  refine PpSet.newSet_ok (newEnv_comp ?_)
  -- the set, empty
  obtain ⟨D, hD⟩ : ∃ D, D = u2.heap.objs.size := ⟨_, rfl⟩
  have nD : G2 D = none := K2.hok.fresh (Nat.le_of_eq hD.symm)
  obtain ⟨W, ⟨m0, w0⟩, step⟩ := q D nD
  obtain ⟨u3, hu3⟩ : ∃ u3 : Shared, u3 = { u2 with heap := u2.heap.push { cls := .type "set", dict := none, data := .set #[] 0 (.fresh 0 0 (!X.w.params.followText "set-order")) } } := ⟨_, rfl⟩
  obtain ⟨G3, hG3⟩ : ∃ G3, G3 = upd G2 D (TS X.w D (fun _ => false) 0) := ⟨_, rfl⟩
  have K3 : Inv X pins σ G3 u3 := by
    rw [hu3, hG3]
    refine K2.laid (t' := u2.toks) (fun b o z => Heap.get?_push_of_some _ z) (Nat.le_of_eq hD.symm) ?_
    rw [hD]
    exact ts_ok (tset_empty X.w)
  have in2 : ∀ b ∈ fp, b < u2.heap.objs.size := fun b hb => let ⟨o, z, _⟩ := T.obj _ _ st2 b hb; Heap.lt_size z
  have n3 : ∀ b ∈ fp, G3 b = none := fun b hb => by
    rw [hG3, upd_ne (by rw [hD]; exact Nat.ne_of_lt (in2 b hb))]
    exact (fo2 b hb).1
  have fo3 : ∀ b ∈ fp, FpOk X pins G3 b ∧ b < u3.heap.objs.size := fun b hb => ⟨⟨n3 b hb, (fo2 b hb).2⟩, by
    rw [hu3]
    exact Nat.lt_of_lt_of_le (in2 b hb) (by show u2.heap.objs.size ≤ (u2.heap.push _).objs.size; rw [Heap.size_push]; exact Nat.le_succ _)⟩
  have st3 : tn 0 u3.heap := T.keep _ _ _ st2 fun b _ o z => by rw [hu3]; exact Heap.get?_push_of_some _ z
  -- the block
  have K4 := block_start K3 ok hN fo3
  rw [← hG3] at w0
  show codeAny _ _ (.compStart (SC e t0 i0 ifs0 t1 i1 ifs1 scope pos) 0 (.ref it) (.ref u2.heap.objs.size) _) _ _
  rw [← hD, ← hu3]
  have b0 := hg u3 G3 u3.heap.objs.size (cellsFrom (u3.heap.objs.size + 1) scope.names (cloFrom X.env.cells scope.names [])) fp
  have b1 := ht u3 G3 u3.heap.objs.size (cellsFrom (u3.heap.objs.size + 1) scope.names (cloFrom X.env.cells scope.names [])) fp
  have b2 := hi1 u3 G3 u3.heap.objs.size (cellsFrom (u3.heap.objs.size + 1) scope.names (cloFrom X.env.cells scope.names [])) fp
  have b3 := hg1 u3 G3 u3.heap.objs.size (cellsFrom (u3.heap.objs.size + 1) scope.names (cloFrom X.env.cells scope.names [])) fp
  have b4 := ht1 u3 G3 u3.heap.objs.size (cellsFrom (u3.heap.objs.size + 1) scope.names (cloFrom X.env.cells scope.names [])) fp
  have b5 := he u3 G3 u3.heap.objs.size (cellsFrom (u3.heap.objs.size + 1) scope.names (cloFrom X.env.cells scope.names [])) fp
  obtain ⟨ce, hce⟩ : ∃ ce, ce = compEnvC scope (cellsFrom (u3.heap.objs.size + 1) scope.names (cloFrom X.env.cells scope.names [])) u3.heap.objs.size X.env := ⟨_, rfl⟩
  rw [← hce] at K4 b0 b1 b2 b3 b4 b5
  show codeAny _ _ (.compStart _ 0 _ _ (compEnvC scope (cellsFrom (u3.heap.objs.size + 1) scope.names (cloFrom X.env.cells scope.names [])) u3.heap.objs.size X.env)) _ _
  rw [← hce]
  have at_ce : ce.locals = u3.heap.objs.size := by rw [hce]; rfl
  obtain ⟨u4, hu4⟩ : ∃ u4 : Shared, u4 = { u3 with heap := pushCells (u3.heap.push { cls := .type "dict", data := .dict #[] }) scope.names } := ⟨_, rfl⟩
  rw [← hu4] at K4 ⊢
  have st4 : tn 0 u4.heap := T.keep _ _ _ st3 fun b _ o z => by rw [hu4]; exact pushCells_keeps _ _ _ _ (Heap.get?_push_of_some _ z)
  have ap : ∀ b ∈ fp, Apart (X.blk u3 G3 scope ce fp) [] b := fun b hb H' n =>
    ⟨n, (K4.ok.exf b hb).1, K4.ok.exfs b hb, .inl hb, fun x c z => (K4.ok.exf b hb).2 x c z, fun p hp => by
      have hp : p ∈ ([] : List (Addr × Obj)) ++ [] := hp
      cases hp⟩
  obtain ⟨vs, hvs⟩ : ∃ vs, vs = own.map (·.2) := ⟨_, rfl⟩
  rw [← hvs] at K4 step hv
  refine PpSet.codeAny_compStart_set (?loop) (T.self X.A 0 _ _ _ st4 ?loop)
  refine loop_out (plain1 ce) (fun n s' => ∃ i H', Inv (X.blk u3 G3 scope ce fp) [] (wipe σ vs) H' s' ∧ tn i s'.heap ∧ (∀ b ∈ fp, H' b = none) ∧ W i n H') ?_ m0 ⟨0, G3, K4, st4, n3, w0⟩
  rintro n s5 ⟨i, H5, I5, st5, n5, w5⟩
  rcases step i n H5 w5 with ⟨ends, qq⟩ | ⟨goes, Nx, hNx, hstep⟩
  · -- no further item
    refine clause (Y := X.blk u3 G3 scope ce fp) hc rfl b0 b1 T I5 st5 ap n5 (C := fun _ _ _ => False) (.inl ⟨ends, fun s6 I6 => ?_⟩)
    have I7 : Inv X pins σ H5 s6 := K3.call' (ch := fp) I6.os I6.base I6.hok I6.bare fun b hb => ⟨(fo3 b hb).1.2.2.2.1, (fo3 b hb).1.2.1, (fo3 b hb).1.2.2.2.2.1, (fo3 b hb).1.2.2.2.2.2⟩
    have nC : H5 u3.heap.objs.size = none := by
      have z : H5 ce.locals = none := I6.free
      rwa [at_ce] at z
    obtain ⟨m, hn, _⟩ := I6.loc
    have hn : s6.heap.Ns ce.locals m := hn
    rw [at_ce] at hn
    refine ⟨m, hn, fun h'' sb => ?_⟩
    obtain ⟨f0, f1, f2, f3, f4, f5⟩ := K3.fpOk (Nat.le_refl _) nC
    exact ⟨.ref D, H5, I7.turned (t' := s6.toks) (fun b o hb z => (sb.2 b hb).trans z) f0 f1 f3 f4 f5, rfl, qq⟩
  · refine clause (Y := X.blk u3 G3 scope ce fp) hc rfl b0 b1 T I5 st5 ap n5 (.inr ⟨goes, hstep, ?_⟩)
    rintro s7 σ2 H3 b s8 st7 I8 ⟨hw, qf, qt⟩
    have len2 : (wipe σ vs).length = σ2.length := by rw [← hw, wipe_length]
    have kn2 : ∀ (j : Nat) v, (wipe σ vs)[j]? = some (some v) → σ2[j]? = some (some v) := fun j v z => by
      rw [← hw] at z
      exact (wipe_some z).1
    have back : ∀ {σ9 : L2.St} {s' : Shared} {H' : Hp}, Inv (X.blk u3 G3 scope ce fp) ([] ++ pinsAt fp s7.heap) σ9 H' s' → (wipe σ vs).length = σ9.length → (∀ (j : Nat) v, (wipe σ vs)[j]? = some (some v) → σ9[j]? = some (some v)) → Nx H' →
        ∃ m, m < n ∧ ∃ i H', Inv (X.blk u3 G3 scope ce fp) [] (wipe σ vs) H' s' ∧ tn i s'.heap ∧ (∀ b ∈ fp, H' b = none) ∧ W i m H' := fun {σ9 s' H'} I' l k nx => by
      obtain ⟨m', lt, w'⟩ := hNx H' nx
      obtain ⟨a1, a2, a3⟩ := next_step (Y := X.blk u3 G3 scope ce fp) T st7 I' l k
      exact ⟨m', lt, i + 1, H', a1, a2, a3, w'⟩
    cases b with
    | false => exact back I8 len2 kn2 (qf rfl)
    | true =>
      show wpAny _ _ (eval i1 ce) _ _ _
      refine thnF (b2.run _ s8 σ2 H3 _ I8 (qt rfl)) fun xv s9 hx => thnF hx fun itv s10 hit => ?_
      obtain ⟨it1, fp1, tn1, J1, H10, rfl, I10, T1, st10, fo10, W1, ⟨m1, w1⟩, step1⟩ := hit
      have ap1 : ∀ b ∈ fp1, Apart (X.blk u3 G3 scope ce fp) ([] ++ pinsAt fp s7.heap) b := fun b hb => apart_of (fo10 b hb)
      have len3 : (wipe σ vs).length = (wipe σ2 vs1).length := by rw [wipe_length σ2]; exact len2
      have out : ∀ {i : Nat} {vs : List Nat} {σ : L2.St}, i ∉ vs → (wipe σ vs)[i]? = σ[i]? := fun {i vs σ} h => wipe_out h
      have kn3 : ∀ (j : Nat) v, (wipe σ vs)[j]? = some (some v) → (wipe σ2 vs1)[j]? = some (some v) := fun j v z => by
        rw [← hw] at z
        obtain ⟨z1, z2⟩ := wipe_some z
        rw [out fun q => z2 (hv j q)]
        exact z1
      refine start_in ?loop1 (T1.self X.A 0 _ _ _ st10 ?loop1)
      refine loop_in (fun k s' => ∃ j H', Inv (X.blk u3 G3 scope ce fp) ([] ++ pinsAt fp s7.heap) (wipe σ2 vs1) H' s' ∧ tn1 j s'.heap ∧ (∀ b ∈ fp1, H' b = none) ∧ W1 j k H') ?_ m1
        ⟨0, H10, I10.weak (wipe_length _ _) (fun j v z => (wipe_some z).1), st10, fun b hb => (fo10 b hb).1, w1⟩
      rintro k s11 ⟨j, H11, I11, st11, n11, w11⟩
      rcases step1 j k H11 w11 with ⟨ends1, nx1⟩ | ⟨goes1, Nx1, hNx1, hstep1⟩
      · exact clause (Y := X.blk u3 G3 scope ce fp) hc rfl b3 b4 T1 I11 st11 ap1 n11 (C := fun _ _ _ => False) (.inl ⟨ends1, fun s12 I12 => back I12 len3 kn3 nx1⟩)
      · refine clause (Y := X.blk u3 G3 scope ce fp) hc rfl b3 b4 T1 I11 st11 ap1 n11 (.inr ⟨goes1, hstep1, ?_⟩)
        rintro s12 σ3 H6 b6 s13 st12 I13 ⟨hw3, rf, rt⟩
        have again1 : ∀ {s' : Shared} {H' : Hp}, Inv (X.blk u3 G3 scope ce fp) (([] ++ pinsAt fp s7.heap) ++ pinsAt fp1 s12.heap) σ3 H' s' → Nx1 H' →
            ∃ m, m < k ∧ ∃ j H', Inv (X.blk u3 G3 scope ce fp) ([] ++ pinsAt fp s7.heap) (wipe σ2 vs1) H' s' ∧ tn1 j s'.heap ∧ (∀ b ∈ fp1, H' b = none) ∧ W1 j m H' := fun {s' H'} I' nx => by
          obtain ⟨m', lt, w'⟩ := hNx1 H' nx
          obtain ⟨a1, a2, a3⟩ := next_step (Y := X.blk u3 G3 scope ce fp) (σ := wipe σ2 vs1) T1 st12 I' (by rw [← hw3, wipe_length]) (fun j v z => by rw [← hw3] at z; exact (wipe_some z).1)
          exact ⟨m', lt, j + 1, H', a1, a2, a3, w'⟩
        cases b6 with
        | false => exact again1 I13 (rf rfl)
        | true =>
          show wpAny _ _ (eval e ce) _ _ _
          refine thnF (b5.run _ s13 σ3 H6 _ I13 (rt rfl)) fun zv s14 hz => ?_
          obtain ⟨yv, H14, I14, r14, z, S, n0, rfl, hD14, room, nx⟩ := hz
          obtain ⟨tz, rfl⟩ := r14
          exact ts_add (X := X.blk u3 G3 scope ce fp) I14 hD14 room fun s15 I15 => again1 I15 nx
end
end Pg

/-! sorted(d, reverse=True), d a dict with texts as keys. -/
namespace Pg
open PySem PySem.Spec PyProof.Rows L2
def sgns (v : Value) : List Nat := match v with
  | .str x _ => cd x
  | _ => []
/-- ahead of another, by their signs -/
def ltT (v u : Value) : Bool := ltCps (sgns v) (sgns u)
theorem swo_txt : SrtO.Swo ltT := by
  constructor
  · intro x y h
    cases e : ltT y x with
    | false => rfl
    | true =>
      have z : ltCps (sgns x) (sgns x) = true := lc_trans h e
      rw [lc_irr] at z
      cases z
  · intro x y z h1 h2
    cases e : ltT z x with
    | false => rfl
    | true =>
      cases q : ltT x y with
      | true =>
        have r : ltT z y = true := lc_trans e q
        rw [h2] at r
        cases r
      | false =>
        have same : sgns y = sgns x := lc_tri h1 q
        have e' : ltCps (sgns z) (sgns x) = true := e
        rw [← same] at e'
        have h2' : ltCps (sgns z) (sgns y) = false := h2
        rw [h2'] at e'
        cases e'
theorem strs_all : ∀ {vs : List Value} {xs : List Str}, StrsAre vs xs → ∀ v ∈ vs, ∃ x t, v = Value.str x t
  | _, _, .nil, v, h => by cases h
  | _, _, .cons x t r, v, h => by
    rcases List.mem_cons.mp h with e | h
    · exact ⟨x, t, e⟩
    · exact strs_all r v h
theorem strs_txt : ∀ {vs : List Value} {xs : List Str}, StrsAre vs xs → vs.map (fun v => txt (0, v)) = xs
  | _, _, .nil => rfl
  | _, _, .cons x t r => congrArg (x :: ·) (strs_txt r)
theorem lt_signs : ∀ a b : List Nat, decide (a < b) = ltCps a b
  | [], [] => by simp [ltCps]
  | [], _ :: _ => by simp [ltCps]
  | _ :: _, [] => by simp [ltCps]
  | x :: a, y :: b => by
    simp only [ltCps, ← lt_signs a b, List.cons_lt_cons_iff]
    rw [Bool.eq_iff_iff]
    simp
section
variable {prog : Program} {w : World} {A : Around} {s : Shared}
theorem txt_sortable {a : Addr} {vs : List Value} {xs : List Str} (are : StrsAre vs xs) (h2 : 2 ≤ vs.length) : SrtO.SortableO prog w A s a vs ltT := by
  intro h' _
  refine ⟨oneType', fun Q E hq => ?_, fun p q hp hq => ?_⟩
  · match vs, are, h2 with
    | v1 :: v2 :: rest, are, _ =>
      rw [keyKind_strs are]
      exact wpAny_pure hq
    | [], _, h => cases h
    | [v], _, h => exact absurd h (by simp)
  · obtain ⟨x, t, e1⟩ := strs_all are _ hp
    obtain ⟨y, u, e2⟩ := strs_all are _ hq
    show wpAny (model prog w) A (keyLt' oneType' p.1 q.1) (fun r s' => s' = _ ∧ r = ltT p.1 q.1) (fun _ _ => False) _
    rw [e1, e2, keyLt'_oneType]
    exact strKind_oneLt prog w A _ _ _ _ (cd x) (cd y) rfl rfl ⟨rfl, lt_signs _ _⟩
end
/-- sorted(d, reverse=True) -/
def rSortedDR : List V → List V → Hp → VK → Prop := fun vs zs H Q => ∃ (a : Addr) (kvs : List (Key × V)) (ks : List Str), vs = [V.ref a] ∧ zs = [.bl true] ∧ Rd H a (.dK kvs) ∧ kvs.map (·.1) = ks.map Sum.inr ∧ ks.length ≤ 100000 ∧
  ∀ (ys : List Str) (p : Addr), ys.Perm ks → (ys.Pairwise fun x y => ahead x y = false) → H p = none → Q (.ref p) (upd H p (.lst (ys.map V.str)))
theorem cr_sortedDR {X : Cx} (calm : X.calm = true) : CallRK X (.builtin "sorted") [Str.ofString "reverse"] rSortedDR := by
  intro pins s σ H vs zs us ws Q I r rz h
  obtain ⟨a, kvs, ks, rfl, rfl, hd, hks, few, q⟩ := h
  obtain rfl := Vals.ref1 r
  obtain ⟨w1, rfl, e1⟩ := vals1 rz
  obtain rfl : w1 = Value.bool true := e1
  obtain ⟨z, low, es, rel, dd⟩ := dk_rd I.hok hd
  obtain ⟨ep, at_d⟩ := dd.dictAt
  have keys : es.map (·.1) = ks.map Sum.inr := rel.keys.symm.trans hks
  have len : es.length = ks.length := by
    have e := congrArg List.length keys
    rw [List.length_map, List.length_map] at e
    exact e
  have fits : es.length ≤ sizeLine := by rw [len, sizeLine_eq]; omega
  refine call_function_entry_kw kind_sorted plain_sorted entry_sorted (args_sorted_rev _ _) ?_
  unfold Builtin.«sorted»
  refine wpAny_bind (m := checkCount "sorted" 1 1 _) (wpAny_pure ?_)
  refine wpAny_bind (PySem.W.kdu_collect (A := X.A.in1) (PySem.W.kdl_dict (knd := mixKind X.prog X.w) (kvs := es) (ep := ep) low) (I.ok.hd calm) at_d fits fun h' tk acc kept got => ?_)
  have al : acc.toList.length = ks.length := by rw [Array.length_toList, got.1, len]
  have are : StrsAre acc.toList ks := strs_at al fun j v e => by
    obtain ⟨k, x, e1, e2⟩ := got.2 j v (by rw [← Array.getElem?_toList]; exact e)
    have e3 : (es.map (·.1))[j]? = some k := by rw [List.getElem?_map, e1]; rfl
    rw [keys, List.getElem?_map] at e3
    cases e4 : ks[j]? with
    | none => rw [e4] at e3; cases e3
    | some y =>
      rw [e4] at e3
      obtain rfl : Sum.inr y = k := Option.some.inj e3
      obtain ⟨t, ev⟩ := Value.isStrOf_shape (x := y) (v := v) e2
      exact ⟨y, t, rfl, ev⟩
  have I1 : Inv X pins σ H { s with heap := h', toks := tk } := I.kept kept
  have fit2 : acc.toList.length ≤ sizeLine := by rw [al, sizeLine_eq]; omega
  refine wpAny_bind (wpAny_newList ?_ fit2)
  have hoL : (h'.push (seqObj "list" acc.toList.toArray 0)).get? h'.objs.size = some (seqObj "list" acc.toList.toArray 0) := Heap.get?_push_size _ rfl
  show wpAny _ _ _ _ _ { s with heap := h'.push (seqObj "list" acc.toList.toArray 0), toks := tk }
  refine wpAny_bind (wpAny_holding (wpAny_call_entry_kw slot_list_sort ⟨_, hoL, rfl⟩ entry_list_sort ?_ (args_list_sort_rev _ _)))
  refine SrtR.list_sort_ordR (b := true) (ltv := ltT) swo_txt hoL fit2 (fun h2 => txt_sortable are h2) fun out h1 h2 => ⟨_, rfl, ?_⟩
  rw [if_pos rfl] at h2 ⊢
  have pm : out.Perm acc.toList := h2.perm.trans (List.reverse_perm _)
  obtain ⟨ep', he'⟩ := PyProof.Rows.sortedHeap_at (vs := acc.toList) (out := out.toArray.reverse) hoL
  have ys_are : StrsAre out.reverse (out.reverse.map fun v => txt (0, v)) := txts_are _ fun v hv => strs_all are v (pm.mem_iff.mp (List.mem_reverse.mp hv))
  have yp : (out.reverse.map fun v => txt (0, v)).Perm ks := by
    have e := ((List.reverse_perm out).trans pm).map fun v => txt (0, v)
    rw [strs_txt are] at e
    exact e
  have down : (out.reverse.map fun v => txt (0, v)).Pairwise fun x y => ahead x y = false := by
    rw [List.pairwise_map, List.pairwise_reverse]
    refine List.Pairwise.imp_of_mem ?_ h1
    intro x y mx my hxy
    obtain ⟨x', t, rfl⟩ := strs_all are x (pm.mem_iff.mp mx)
    obtain ⟨y', u, rfl⟩ := strs_all are y (pm.mem_iff.mp my)
    exact hxy
  have small : ((out.reverse.map fun v => txt (0, v)).map V.str).length ≤ sizeLine := by
    rw [List.length_map, yp.length_eq, sizeLine_eq]
    omega
  refine wpAny_pure ⟨_, rfl, .ref h'.objs.size, upd H h'.objs.size (.lst ((out.reverse.map fun v => txt (0, v)).map V.str)), I1.laid (t' := tk) (fun b u e => ?_) (Nat.le_refl _)
    (show ObjOk X.prog X.w _ _ _ (.lst ((out.reverse.map fun v => txt (0, v)).map V.str)) from ⟨small, out.reverse, ep', vals_of_strs ys_are, by rw [he', List.reverse_toArray]⟩), rfl, q _ _ yp down (I1.hok.fresh (Nat.le_refl _))⟩
  have lt : b < h'.objs.size := Heap.lt_size e
  rw [PyProof.Rows.sortedHeap_old (Nat.ne_of_lt lt) (by rw [size_push']; exact Nat.lt_succ_of_lt lt)]
  exact Heap.get?_push_of_some _ e
/-- sorted(d), any number of texts -/
def rSortedDA : List V → Hp → VK → Prop := fun vs H Q => ∃ (a : Addr) (kvs : List (Key × V)) (ks : List Str), vs = [V.ref a] ∧ Rd H a (.dK kvs) ∧ kvs.map (·.1) = ks.map Sum.inr ∧ ks.length ≤ 100000 ∧
  ∀ (ys : List Str) (p : Addr), ys.Perm ks → sortedS ys = true → H p = none → Q (.ref p) (upd H p (.lst (ys.map V.str)))
theorem cr_sortedDA {X : Cx} (calm : X.calm = true) : CallR X (.builtin "sorted") rSortedDA := by
  intro pins s σ H vs us Q I r h
  obtain ⟨a, kvs, ks, rfl, hd, hks, few, q⟩ := h
  obtain rfl := Vals.ref1 r
  obtain ⟨z, low, es, rel, dd⟩ := dk_rd I.hok hd
  obtain ⟨ep, at_d⟩ := dd.dictAt
  have keys : es.map (·.1) = ks.map Sum.inr := rel.keys.symm.trans hks
  have len : es.length = ks.length := by
    have e := congrArg List.length keys
    rw [List.length_map, List.length_map] at e
    exact e
  have fits : es.length ≤ sizeLine := by rw [len, sizeLine_eq]; omega
  apply Calls.call_function_entry kind_sorted plain_sorted entry_sorted (args_sorted1 _)
  unfold Builtin.«sorted»
  refine wpAny_bind (m := checkCount "sorted" 1 1 _) (wpAny_pure ?_)
  refine wpAny_bind (PySem.W.kdu_collect (A := X.A.in1) (PySem.W.kdl_dict (knd := mixKind X.prog X.w) (kvs := es) (ep := ep) low) (I.ok.hd calm) at_d fits fun h' tk acc kept got => ?_)
  have al : acc.toList.length = ks.length := by rw [Array.length_toList, got.1, len]
  have are : StrsAre acc.toList ks := strs_at al fun j v e => by
    obtain ⟨k, x, e1, e2⟩ := got.2 j v (by rw [← Array.getElem?_toList]; exact e)
    have e3 : (es.map (·.1))[j]? = some k := by rw [List.getElem?_map, e1]; rfl
    rw [keys, List.getElem?_map] at e3
    cases e4 : ks[j]? with
    | none => rw [e4] at e3; cases e3
    | some y =>
      rw [e4] at e3
      obtain rfl : Sum.inr y = k := Option.some.inj e3
      obtain ⟨t, ev⟩ := Value.isStrOf_shape (x := y) (v := v) e2
      exact ⟨y, t, rfl, ev⟩
  have I1 : Inv X pins σ H { s with heap := h', toks := tk } := I.kept kept
  have fit2 : acc.toList.length ≤ sizeLine := by rw [al, sizeLine_eq]; omega
  refine wpAny_bind (wpAny_newList ?_ fit2)
  have hoL : (h'.push (seqObj "list" acc.toList.toArray 0)).get? h'.objs.size = some (seqObj "list" acc.toList.toArray 0) := Heap.get?_push_size _ rfl
  show wpAny _ _ _ _ _ { s with heap := h'.push (seqObj "list" acc.toList.toArray 0), toks := tk }
  apply wpAny_bind
  apply wpAny_holding
  refine wpAny_call_entry slot_list_sort ⟨_, hoL, rfl⟩ entry_list_sort (list_sort_treeKAny strKind_oneLt (s := { s with heap := h'.push (seqObj "list" acc.toList.toArray 0), toks := tk }) hoL are.keysOf (fun v₁ v₂ rest e => keyKind_strs (by rw [← e]; exact are)) fit2 fun st' hp hs => ⟨_, rfl, ?_⟩) (args_list_sort _)
  obtain ⟨ys, g1, g2, g3⟩ := sorted_out_str are hp hs
  obtain ⟨ep', he'⟩ := PyProof.Rows.sortedHeap_at (vs := acc.toList) (out := (arrOf st').map (·.2)) hoL
  have small : (ys.map V.str).length ≤ sizeLine := by
    rw [List.length_map, g2.length_eq, sizeLine_eq]
    omega
  refine wpAny_pure ⟨_, rfl, .ref h'.objs.size, upd H h'.objs.size (.lst (ys.map V.str)), I1.laid (t' := tk) (fun b u e => ?_) (Nat.le_refl _)
    (show ObjOk X.prog X.w _ _ _ (.lst (ys.map V.str)) from ⟨small, _, ep', vals_of_strs g1, by rw [Array.toArray_toList]; exact he'⟩), rfl, q ys _ g2 g3 (I1.hok.fresh (Nat.le_refl _))⟩
  have lt : b < h'.objs.size := Heap.lt_size e
  rw [PyProof.Rows.sortedHeap_old (Nat.ne_of_lt lt) (by rw [size_push']; exact Nat.lt_succ_of_lt lt)]
  exact Heap.get?_push_of_some _ e
/-- within a comprehension: the written part is the def's own -/
theorem pi_listK {X : Cx} {K : PySem.W.Frag} {tg e : Expr} {te : TE} (h : X.K = K) (he : PE X e te) : PI X tg e (iList K te) := h ▸ pi_list he
theorem pi_tupK {X : Cx} {K : PySem.W.Frag} {tg e : Expr} {te : TE} (h : X.K = K) (he : PE X e te) : PI X tg e (iTup K te) := h ▸ pi_tup he
end Pg

/-! A dict comprehension that is stored in a local on its own line. -/
namespace Pg
open PySem PySem.Spec PyProof.Rows L2
theorem sw_dict {a b : Expr} {cs : List Comprehension} {sc : Scope} {p q : Pos} {n : Str} {line : Nat} {env : Env} (loc : env.scope.names.lookup n = some .local) (fn : env.scope.kind = .function) (row : (q.line == p.line) = true)
    (own : (sc.names.any fun (m, k) => m == n && (k == .local || k == .cell)) = false) : swapsWith (.DictComp a b cs sc p) (some (.Name n q)) line env = pure true := by
  have h1 : env.kindOf n = some .local := loc
  have h2 : env.blockKind = .function := by rw [Env.blockKind, fn]; rfl
  rw [swapsWith.eq_def]
  simp only [h1, h2, own, row, Expr.pos]
  rfl
section
variable {X : Cx}
theorem ps_setDc {k : Nat} {n : Str} {a b tg it : Expr} {cs : List Expr} {sc : Scope} {own : List (Str × Nat)} {p q r : Pos} {wi : TI} {g : TG} {tt : TT} {ta tb : TE} (calm : X.calm = true) (hN : X.N.Nodup) (at_ : X.N[k]? = some n) (loc : X.env.scope.names.lookup n = some .local)
    (sw : swapsWith (.DictComp a b [⟨tg, it, cs, 0⟩] sc p) (some (.Name n q)) r.line X.env = pure true) (hi : PI X tg it wi) (ok : BlkOk X.N X.env.scope sc own)
    (hg : ∀ (s : Shared) (H : Hp) (C : Addr) (cl : List (Str × Addr)) (fp : List Addr), PG (X.blk s H sc (compEnvC sc cl C X.env) fp) tg g)
    (ht : ∀ (s : Shared) (H : Hp) (C : Addr) (cl : List (Str × Addr)) (fp : List Addr), PTs (X.blk s H sc (compEnvC sc cl C X.env) fp) cs tt)
    (ha : ∀ (s : Shared) (H : Hp) (C : Addr) (cl : List (Str × Addr)) (fp : List Addr), PE (X.blk s H sc (compEnvC sc cl C X.env) fp) a ta)
    (hb : ∀ (s : Shared) (H : Hp) (C : Addr) (cl : List (Str × Addr)) (fp : List Addr), PE (X.blk s H sc (compEnvC sc cl C X.env) fp) b tb) (plain : ∀ x, foldedSetIterable it X.env x = pure x := by intro _; rfl) :
    PS X (.Assign [.Name n q] (.DictComp a b [⟨tg, it, cs, 0⟩] sc p) r) (tAsg (tDc wi g tt ta tb (own.map (·.2))) (gName k)) := by
  constructor
  intro pins s σ H D I hyp
  rw [exec_Assign_Name_used _ _ _ _ sw]
  apply wpAny_bind
  apply wpAny_standAt
  apply wpAny_bind
  have core := dc_core (Qf := fun _ t => SP X pins D .next t) (use := some (assign (.Name n q) X.env)) (pos := p) (pos' := firstIterPos [⟨tg, it, cs, 0⟩] p) (Q := fun x H1 => gName k x σ H1 D.nx) calm hN I hi ok hg ht ha hb plain hyp
  apply wpAny_bind
  refine thn (core fun D' C t m G I' post clear free => ?_) fun _ t done => wpAny_pure (wpAny_pure done)
  have stored : ∀ t2, Inv X pins (σ.set k (some (.ref D'))) G t2 → (∃ c, Heap.SameBut c t.heap t2.heap ∧ (c = X.env.locals ∨ X.env.cells.lookup n = some c)) →
      ∃ m, t2.heap.Ns C m ∧ ∀ h', Heap.SameBut C t2.heap h' → SP X pins D .next { t2 with heap := h' } := by
    rintro t2 I2 ⟨c, same, place⟩
    obtain ⟨f0, f1, f2, f3, f4, f5⟩ := free
    have other : C ≠ c := by
      rintro rfl
      exact place.elim f1 fun w => f4 n _ w rfl
    refine ⟨m, clear.sameBut same other, fun h' away => ⟨_, G, ?_, post⟩⟩
    exact I2.turned (t' := t2.toks) (fun b o hb e => (away.2 b hb).trans e) f0 f1 f3 f4 f5
  exact wpAny_assign_Name (store_ok2 (v := V.ref D') I' hN at_ (.inl loc) rfl stored (.inr loc))
end
/-- over a dict's keys, the dict locked -/
theorem dc_keys {d : Addr} {o : Obj} {kvs : List (Key × V)} {g : TG} {tt : TT} {tk tv : TE} {vs : List Nat} {σ : L2.St} {H1 : Hp} {D : Addr} {Qd : Hp → Prop} (Pv : Nat → Hp → Prop) (h0 : Pv 0 (upd H1 D (.dK [])))
    (locked : ∀ i H, i ≤ kvs.length → Pv i H → H d = some (.frz o (.dK kvs)))
    (turn : ∀ i k v H, kvs[i]? = some (k, v) → Pv i H → g (kV k) (wipe σ vs) H fun σ2 H2 => wipe σ2 vs = wipe σ vs ∧ tt σ2 H2 fun b H3 =>
      if b = true then tk σ2 H3 fun y H4 => tv σ2 H4 fun z H5 => ∃ kws k, y = kV k ∧ H5 D = some (.dK kws) ∧ kws.length < sizeLine ∧ Pv (i + 1) (upd H5 D (.dK (putK kws k z))) else Pv (i + 1) H3) (after : ∀ H, Pv kvs.length H → Qd H) :
    ∃ W : Nat → Nat → Hp → Prop, (∃ m, W 0 m (upd H1 D (.dK []))) ∧ ∀ i m H, W i m H →
      ((Itk d o kvs).stop i H ∧ Qd H) ∨ ((Itk d o kvs).go i H ∧ ∃ Nx : Hp → Prop, (∀ H', Nx H' → ∃ m', m' < m ∧ W (i + 1) m' H') ∧ ∀ x H', (Itk d o kvs).yld i H x H' → g x (wipe σ vs) H' fun σ2 H2 => wipe σ2 vs = wipe σ vs ∧ tt σ2 H2 fun b H3 =>
        if b = true then tk σ2 H3 fun y H4 => tv σ2 H4 fun z H5 => ∃ kws k, y = kV k ∧ H5 D = some (.dK kws) ∧ kws.length < sizeLine ∧ Nx (upd H5 D (.dK (putK kws k z))) else Nx H3) := by
  refine ⟨fun i m H => i + m = kvs.length ∧ Pv i H, ⟨kvs.length, by omega, h0⟩, ?_⟩
  rintro i m H ⟨e, p⟩
  have lk := locked i H (by omega) p
  by_cases lt : i < kvs.length
  · refine .inr ⟨⟨lk, lt⟩, Pv (i + 1), fun H' p' => ⟨m - 1, by omega, by omega, p'⟩, ?_⟩
    rintro x H' ⟨rfl, k, v, at_, rfl⟩
    exact turn i k v _ at_ p
  · obtain rfl : i = kvs.length := by omega
    exact .inl ⟨⟨lk, Nat.le_refl _⟩, after H p⟩
/-- sorted(t), t a tuple of texts, any number -/
def rSortedTA (K : PySem.W.Frag) : List V → Hp → VK → Prop := fun vs H Q => ∃ (a : Addr) (ks : List Str), vs = [V.ref a] ∧ SqT K H a (ks.map V.str) ∧ ks.length ≤ 100000 ∧
  ∀ (ys : List Str) (p : Addr), ys.Perm ks → sortedS ys = true → H p = none → Q (.ref p) (upd H p (.lst (ys.map V.str)))
theorem cr_sortedTA {X : Cx} : CallR X (.builtin "sorted") (rSortedTA X.K) := by
  intro pins s σ H vs us Q I r h
  obtain ⟨a, ks, rfl, hd, few, q⟩ := h
  obtain rfl := Vals.ref1 r
  obtain ⟨its, rel, ⟨o, ho, hc, n, hdata⟩, small0⟩ := I.tuple hd
  have al : its.length = ks.length := by rw [← rel.length, List.length_map]
  have fit2 : its.length ≤ sizeLine := by rw [al, sizeLine_eq]; omega
  have are : StrsAre its ks := rel.strs
  apply Calls.call_function_entry kind_sorted plain_sorted entry_sorted (args_sorted1 _)
  unfold Builtin.«sorted»
  refine wpAny_bind (m := checkCount "sorted" 1 1 _) (wpAny_pure ?_)
  refine wpAny_bind (wpAny_collect_seq a (.inr rfl) ho hc hdata (fun h' kept => ?_) (by rw [List.size_toArray]; exact fit2))
  rw [show its.toArray.toList = its by simp]
  have I1 : Inv X pins σ H { s with heap := h', toks := s.toks } := I.kept kept
  refine wpAny_bind (wpAny_newList ?_ fit2)
  have hoL : (h'.push (seqObj "list" its.toArray 0)).get? h'.objs.size = some (seqObj "list" its.toArray 0) := Heap.get?_push_size _ rfl
  show wpAny _ _ _ _ _ { s with heap := h'.push (seqObj "list" its.toArray 0), toks := s.toks }
  apply wpAny_bind
  apply wpAny_holding
  refine wpAny_call_entry slot_list_sort ⟨_, hoL, rfl⟩ entry_list_sort (list_sort_treeKAny strKind_oneLt (s := { s with heap := h'.push (seqObj "list" its.toArray 0), toks := s.toks }) hoL are.keysOf (fun v₁ v₂ rest e => keyKind_strs (by rw [← e]; exact are)) fit2 fun st' hp hs => ⟨_, rfl, ?_⟩) (args_list_sort _)
  obtain ⟨ys, g1, g2, g3⟩ := sorted_out_str are hp hs
  obtain ⟨ep', he'⟩ := PyProof.Rows.sortedHeap_at (vs := its) (out := (arrOf st').map (·.2)) hoL
  have small : (ys.map V.str).length ≤ sizeLine := by
    rw [List.length_map, g2.length_eq, sizeLine_eq]
    omega
  refine wpAny_pure ⟨_, rfl, .ref h'.objs.size, upd H h'.objs.size (.lst (ys.map V.str)), I1.laid (t' := s.toks) (fun b u e => ?_) (Nat.le_refl _)
    (show ObjOk X.prog X.w _ _ _ (.lst (ys.map V.str)) from ⟨small, _, ep', vals_of_strs g1, by rw [Array.toArray_toList]; exact he'⟩), rfl, q ys _ g2 g3 (I1.hok.fresh (Nat.le_refl _))⟩
  have lt : b < h'.objs.size := Heap.lt_size e
  rw [PyProof.Rows.sortedHeap_old (Nat.ne_of_lt lt) (by rw [size_push']; exact Nat.lt_succ_of_lt lt)]
  exact Heap.get?_push_of_some _ e
end Pg

/-! A comprehension within a comprehension. -/
namespace Pg
open PySem PySem.Spec PyProof.Rows L2
/-- nothing but a scope -/
def bareEnv (d : Scope) : Env := { scope := d, locals := 0, globals := 0, cells := [] }
theorem blkOk_nest {N : List Str} {sc scope d : Scope} {own : List (Str × Nat)} {env : Env} {cl : List (Str × Addr)} {C : Addr} (h : env.scope = d) (c : blkC N (relabel sc (bareEnv d)) scope own = true) : BlkOk N (compEnvC sc cl C env).scope scope own := by
  have e : (compEnvC sc cl C env).scope = relabel sc (bareEnv d) := by
    subst h
    rfl
  rw [e]
  exact blkOk_by c
/-- a field, within a comprehension -/
theorem pe_fldK {X : Cx} {K : PySem.W.Frag} {e : Expr} {ta : TE} {f : Str} {pos : Pos} (h : X.K = K) (he : PE X e ta) (hb : attributeBase e f X.env (eval e X.env) = eval e X.env) : PE X (.Attribute e f pos) (tFld K ta f) := h ▸ pe_fld he hb
section
variable {X : Cx} {a b : Expr} {ta tb : TT} {pos : Pos}
theorem pts_and2 (ha : PT X a ta) (hb : PT X b tb) : PTs X [.BoolOp .And [a, b] pos] (tAnd ta tb) := pts_one (PW.pt (pw_and ha (pw_and1 hb)))
end
end Pg

namespace K07
open PySem PySem.Spec PyProof.Rows L2 Pg
def topS (i : Nat) : Stmt := PySem.Challenge.pw_pagesatonce_k07_snapshots_and_what_is_kn.main.body.getD i (.Pass ⟨0, 0, 0, 0⟩)
abbrev s_law_cell : Stmt := topS 23
theorem sc_law_cell : FnScope ["script", "k"] ["script", "k"] (defScope s_law_cell) := ⟨rfl, rfl, rfl, by decide +kernel, rfl, by decide +kernel, by decide +kernel⟩
abbrev s_law_digits : Stmt := topS 24
theorem sc_law_digits : FnScope ["script", "first", "last", "digits", "k", "cell", "turn", "seed"] ["script", "first", "last"] (defScope s_law_digits) := ⟨rfl, rfl, rfl, by decide +kernel, rfl, by decide +kernel, by decide +kernel⟩
abbrev s_law_is_name : Stmt := topS 25
theorem sc_law_is_name : FnScope ["text", "sign"] ["text"] (defScope s_law_is_name) := ⟨rfl, rfl, rfl, by decide +kernel, rfl, by decide +kernel, by decide +kernel⟩
abbrev s_law_draw : Stmt := topS 34
theorem sc_law_draw : FnScope ["box", "many", "at"] ["box", "many"] (defScope s_law_draw) := ⟨rfl, rfl, rfl, by decide +kernel, rfl, by decide +kernel, by decide +kernel⟩
abbrev s_law_name : Stmt := topS 35
theorem sc_law_name : FnScope ["box"] ["box"] (defScope s_law_name) := ⟨rfl, rfl, rfl, by decide +kernel, rfl, by decide +kernel, by decide +kernel⟩
abbrev s_law_text : Stmt := topS 36
theorem sc_law_text : FnScope ["box", "most", "text", "turn", "name", "kind"] ["box", "most"] (defScope s_law_text) := ⟨rfl, rfl, rfl, by decide +kernel, rfl, by decide +kernel, by decide +kernel⟩
abbrev s_law_alike : Stmt := topS 39
theorem sc_law_alike : FnScope ["one", "two"] ["one", "two"] (defScope s_law_alike) := ⟨rfl, rfl, rfl, by decide +kernel, rfl, by decide +kernel, by decide +kernel⟩
abbrev s_law_bracket : Stmt := topS 26
theorem sc_law_bracket : FnScope ["name", "text", "at", "end", "skip", "inner"] ["name", "text", "at"] (defScope s_law_bracket) := ⟨rfl, rfl, rfl, by decide +kernel, rfl, by decide +kernel, by decide +kernel⟩
abbrev s_law_split : Stmt := topS 27
theorem sc_law_split : FnScope ["name", "text", "found", "at", "told"] ["name", "text"] (defScope s_law_split) := ⟨rfl, rfl, rfl, by decide +kernel, rfl, by decide +kernel, by decide +kernel⟩
abbrev s_is_name : Stmt := topS 3
theorem sc_is_name : FnScope ["text", "sign"] ["text"] (defScope s_is_name) := ⟨rfl, rfl, rfl, by decide +kernel, rfl, by decide +kernel, by decide +kernel⟩
abbrev s_is_after : Stmt := topS 4
theorem sc_is_after : FnScope ["one", "other"] ["one", "other"] (defScope s_is_after) := ⟨rfl, rfl, rfl, by decide +kernel, rfl, by decide +kernel, by decide +kernel⟩
abbrev s_plain : Stmt := topS 8
theorem sc_plain : FnScope ["characters"] ["characters"] (defScope s_plain) := ⟨rfl, rfl, rfl, by decide +kernel, rfl, by decide +kernel, by decide +kernel⟩
abbrev s_text_of : Stmt := topS 10
theorem sc_text_of : FnScope ["segment", "kind", "characters", "before", "behind"] ["segment"] (defScope s_text_of) := ⟨rfl, rfl, rfl, by decide +kernel, rfl, by decide +kernel, by decide +kernel⟩
abbrev s_segment_at : Stmt := topS 9
theorem sc_segment_at : FnScope ["name", "text", "at", "kind", "before", "behind", "start", "end", "inner"] ["name", "text", "at"] (defScope s_segment_at) := ⟨rfl, rfl, rfl, by decide +kernel, rfl, by decide +kernel, by decide +kernel⟩
abbrev s_split : Stmt := topS 7
theorem sc_split : FnScope ["name", "text", "segments", "done", "at", "segment"] ["name", "text"] (defScope s_split) := ⟨rfl, rfl, rfl, by decide +kernel, rfl, by decide +kernel, by decide +kernel⟩
abbrev s_leads_on : Stmt := topS 15
theorem sc_leads_on : FnScope ["name", "outcome"] ["name", "outcome"] (defScope s_leads_on) := ⟨rfl, rfl, rfl, by decide +kernel, rfl, by decide +kernel, by decide +kernel⟩
abbrev s_told_dependencies : Stmt := topS 13
theorem sc_told_dependencies : FnScope ["name", "text", "results", "found", "kind", "inner", "outcome", "goal"] ["name", "text", "results"] (defScope s_told_dependencies) := ⟨rfl, rfl, rfl, by decide +kernel, rfl, by decide +kernel, by decide +kernel⟩
abbrev s_all_required : Stmt := topS 14
theorem sc_all_required : FnScope ["pages", "told", "reached", "waiting", "name", "after", "_"] ["pages", "told"] (defScope s_all_required) := ⟨rfl, rfl, rfl, by decide +kernel, rfl, by decide +kernel, by decide +kernel⟩
abbrev s_all_known : Stmt := topS 18
theorem sc_all_known : FnScope ["found", "_", "outcome"] ["found"] (defScope s_all_known) := ⟨rfl, rfl, rfl, by decide +kernel, rfl, by decide +kernel, by decide +kernel⟩
abbrev s_Cache_init : Stmt := inClass (topS 21) 0
theorem sc_Cache_init : FnScope ["self"] ["self"] (defScope s_Cache_init) := ⟨rfl, rfl, rfl, by decide +kernel, rfl, by decide +kernel, by decide +kernel⟩
abbrev s_Cache_renderings : Stmt := inClass (topS 21) 2
theorem sc_Cache_renderings : FnScope ["self", "name"] ["self", "name"] (defScope s_Cache_renderings) := ⟨rfl, rfl, rfl, by decide +kernel, rfl, by decide +kernel, by decide +kernel⟩
abbrev s_Cache_add : Stmt := inClass (topS 21) 1
theorem sc_Cache_add : FnScope ["self", "rendering", "name", "others", "other"] ["self", "rendering"] (defScope s_Cache_add) := ⟨rfl, rfl, rfl, by decide +kernel, rfl, by decide +kernel, by decide +kernel⟩
abbrev s_Cache_find : Stmt := inClass (topS 21) 4
theorem sc_Cache_find : FnScope ["self", "name", "text", "found", "rendering"] ["self", "name", "text", "found"] (defScope s_Cache_find) := ⟨rfl, rfl, rfl, by decide +kernel, rfl, by decide +kernel, by decide +kernel⟩
abbrev s_Snapshot_init : Stmt := inClass (topS 17) 0
theorem sc_Snapshot_init : FnScope ["self", "sources", "pages", "attempts", "cache", "name", "text", "found"] ["self", "sources", "pages", "attempts", "cache"] (defScope s_Snapshot_init) := ⟨rfl, rfl, rfl, by decide +kernel, rfl, by decide +kernel, by decide +kernel⟩
abbrev s_Snapshot_known : Stmt := inClass (topS 17) 1
theorem sc_Snapshot_known : FnScope ["self", "name"] ["self", "name"] (defScope s_Snapshot_known) := ⟨rfl, rfl, rfl, by decide +kernel, rfl, by decide +kernel, by decide +kernel⟩
abbrev s_Snapshot_told : Stmt := inClass (topS 17) 2
theorem sc_Snapshot_told : FnScope ["self", "name"] ["self", "name"] (defScope s_Snapshot_told) := ⟨rfl, rfl, rfl, by decide +kernel, rfl, by decide +kernel, by decide +kernel⟩
abbrev s_Snapshot_required : Stmt := inClass (topS 17) 3
theorem sc_Snapshot_required : FnScope ["self"] ["self"] (defScope s_Snapshot_required) := ⟨rfl, rfl, rfl, by decide +kernel, rfl, by decide +kernel, by decide +kernel⟩
abbrev s_Snapshot_renderable : Stmt := inClass (topS 17) 4
theorem sc_Snapshot_renderable : FnScope ["self", "name"] ["self"] (defScope s_Snapshot_renderable) := ⟨rfl, rfl, rfl, by decide +kernel, rfl, by decide +kernel, by decide +kernel⟩
abbrev s_Snapshot_is_ready : Stmt := inClass (topS 17) 5
theorem sc_Snapshot_is_ready : FnScope ["self", "name"] ["self"] (defScope s_Snapshot_is_ready) := ⟨rfl, rfl, rfl, by decide +kernel, rfl, by decide +kernel, by decide +kernel⟩
abbrev s_law_pages : Stmt := topS 38
theorem sc_law_pages : FnScope ["box", "pages", "turn", "name"] ["box"] (defScope s_law_pages) := ⟨rfl, rfl, rfl, by decide +kernel, rfl, by decide +kernel, by decide +kernel⟩
abbrev s_law_sources : Stmt := topS 37
theorem sc_law_sources : FnScope ["box", "most", "sources", "turn", "name"] ["box", "most"] (defScope s_law_sources) := ⟨rfl, rfl, rfl, by decide +kernel, rfl, by decide +kernel, by decide +kernel⟩
abbrev s_law_joined : Stmt := topS 30
theorem sc_law_joined : FnScope ["name", "text", "found", "parts", "links", "at", "word", "other", "told", "rising", "link"] ["name", "text", "found"] (defScope s_law_joined) := ⟨rfl, rfl, rfl, by decide +kernel, rfl, by decide +kernel, by decide +kernel⟩
abbrev s_law_rendered : Stmt := topS 31
theorem sc_law_rendered : FnScope ["name", "text", "attempts", "found", "other", "told"] ["name", "text", "attempts", "found"] (defScope s_law_rendered) := ⟨rfl, rfl, rfl, by decide +kernel, rfl, by decide +kernel, by decide +kernel⟩
abbrev s_law_known : Stmt := topS 41
theorem sc_law_known : FnScope ["known", "sources", "name"] ["known", "sources", "name"] (defScope s_law_known) := ⟨rfl, rfl, rfl, by decide +kernel, rfl, by decide +kernel, by decide +kernel⟩
abbrev s_law_told : Stmt := topS 40
theorem sc_law_told : FnScope ["known", "sources", "name", "found", "word", "other", "result"] ["known", "sources", "name"] (defScope s_law_told) := ⟨rfl, rfl, rfl, by decide +kernel, rfl, by decide +kernel, by decide +kernel⟩
abbrev s_law_filled : Stmt := topS 42
theorem sc_law_filled : FnScope ["box", "cache", "sources", "attempts", "known", "name", "found", "kind", "whole", "result", "other"] ["box", "cache", "sources", "attempts"] (defScope s_law_filled) := ⟨rfl, rfl, rfl, by decide +kernel, rfl, by decide +kernel, by decide +kernel⟩
abbrev s_law_later : Stmt := topS 43
theorem sc_law_later : FnScope ["handed", "cache", "known", "sources", "attempts", "name", "found", "other", "result"] ["handed", "cache", "known", "sources", "attempts"] (defScope s_law_later) := ⟨rfl, rfl, rfl, by decide +kernel, rfl, by decide +kernel, by decide +kernel⟩
abbrev s_law_needed : Stmt := topS 44
theorem sc_law_needed : FnScope ["known", "sources", "pages", "found", "turn", "name", "other", "result"] ["known", "sources", "pages"] (defScope s_law_needed) := ⟨rfl, rfl, rfl, by decide +kernel, rfl, by decide +kernel, by decide +kernel⟩
abbrev s_law : Stmt := topS 45
theorem sc_law : FnScope ["script", "box", "turn", "sources", "attempts", "cache", "known", "pages", "handed", "snapshot", "name", "needed", "due", "other", "result"] ["script"] (defScope s_law) := ⟨rfl, rfl, rfl, by decide +kernel, rfl, by decide +kernel, by decide +kernel⟩
structure T_Cache (K : PySem.W.Frag) (mg : Str → Option Value) (C : Addr) : Prop where
  cl : Cls K C
  g : mg "Cache" = some (.ref C)
  n_renderings : NoAttr K C "_renderings"
structure T_Snapshot (K : PySem.W.Frag) (mg : Str → Option Value) (C : Addr) : Prop where
  cl : Cls K C
  g : mg "Snapshot" = some (.ref C)
  n_pages : NoAttr K C "_pages"
  n_told : NoAttr K C "_told"
  n_results : NoAttr K C "_results"
structure Z (mg : Str → Option Value) : Prop where
  «len» : mg "len" = none
  «range» : mg "range" = none
  «int» : mg "int" = none
  «repr» : mg "repr" = none
  «max» : mg "max" = none
  «all» : mg "all" = none
  «list» : mg "list" = none
  «tuple» : mg "tuple" = none
  «sorted» : mg "sorted" = none
  «dict» : mg "dict" = none
  c_NAME_MOST : ∃ t, mg "NAME_MOST" = some (.int 6 t)
  c_RENDERINGS_MOST : ∃ t, mg "RENDERINGS_MOST" = some (.int 4 t)
end K07

namespace K07
open PySem PySem.Spec PyProof.Rows L2 Pg
/-! ### what the helpers of the law promise -/
/-- a cell of the script, or 0 -/
def spCell (K : PySem.W.Frag) : Sp := fun vs H Q _ => ∃ (l : Addr) (ns : List Int) (k : Nat), vs = [.ref l, .int (k : Nat)] ∧ SqL K H l (ns.map V.int) ∧ ∀ c : Int, Q (.int c) H
/-- a new list of some whole numbers -/
def spDigits (K : PySem.W.Frag) : Sp := fun vs H Q _ => ∃ (l : Addr) (ns : List Int) (a b : Nat), vs = [.ref l, .int (a : Nat), .int (b : Nat)] ∧ SqL K H l (ns.map V.int) ∧ a ≤ 63 ∧ b ≤ 63 ∧
  ∀ (H' : Hp) (p : Addr) (ds : List Int), Same H H' → H p = none → H' p = some (.lst (ds.map V.int)) → ds.length ≤ 4000 → Q (.ref p) H'
/-- the box of the draws: its digits stand at d -/
def BoxAt (H : Hp) (b d : Addr) : Prop := ∃ (ds : List Int) (n : Nat), H b = some (.lst [.ref d, .int (n : Nat)]) ∧ H d = some (.lst (ds.map V.int)) ∧ d ≠ b ∧ ds.length ≤ 4000
def Box (H : Hp) (b : Addr) : Prop := ∃ d, BoxAt H b d
/-- all but the box is as it was -/
structure Drew (b : Addr) (H H' : Hp) : Prop where
  box : Box H' b
  dig : ∀ d, BoxAt H b d → BoxAt H' b d
  keep : ∀ p o, p ≠ b → H p = some o → H' p = some o
theorem Drew.trans {b : Addr} {H H1 H2 : Hp} (x : Drew b H H1) (y : Drew b H1 H2) : Drew b H H2 := ⟨y.box, fun d e => y.dig d (x.dig d e), fun p o n e => y.keep p o n (x.keep p o n e)⟩
theorem BoxAt.same {b d : Addr} {H H' : Hp} (x : BoxAt H b d) (s : Same H H') : BoxAt H' b d := by
  obtain ⟨ds, n, e1, e2, ne, few⟩ := x
  exact ⟨ds, n, s _ _ e1, s _ _ e2, ne, few⟩
theorem BoxAt.upd {b d p : Addr} {H : Hp} {o : HO} (x : BoxAt H b d) (n1 : p ≠ b) (n2 : p ≠ d) : BoxAt (upd H p o) b d := by
  obtain ⟨ds, n, e1, e2, ne, few⟩ := x
  exact ⟨ds, n, by rw [upd_ne n1.symm]; exact e1, by rw [upd_ne n2.symm]; exact e2, ne, few⟩
theorem BoxAt.ne {b d p : Addr} {H : Hp} (x : BoxAt H b d) (n : H p = none) : p ≠ b ∧ p ≠ d := by
  obtain ⟨ds, m, e1, e2, _⟩ := x
  exact ⟨(ne_of_none e1 n).symm, (ne_of_none e2 n).symm⟩
theorem Box.same {b : Addr} {H H' : Hp} (x : Box H b) (s : Same H H') : Box H' b := let ⟨d, e⟩ := x; ⟨d, e.same s⟩
theorem Box.ne {b p : Addr} {H : Hp} (x : Box H b) (n : H p = none) : p ≠ b := let ⟨_, e⟩ := x; (e.ne n).1
theorem Drew.same {b : Addr} {H H1 H2 : Hp} (x : Drew b H H1) (s : Same H1 H2) : Drew b H H2 := ⟨x.box.same s, fun d e => (x.dig d e).same s, fun p o n e => s _ _ (x.keep p o n e)⟩
theorem Drew.of {b : Addr} {H H' : Hp} (x : Box H b) (s : Same H H') : Drew b H H' := ⟨x.same s, fun d e => e.same s, fun p o _ e => s _ _ e⟩
theorem same_new {H : Hp} {p : Addr} {o : HO} (h : H p = none) : Same H (upd H p o) := by
  intro b x e
  rw [upd_ne (ne_of_none e h)]
  exact e
theorem small5 {n : Nat} (h : n ≤ 100000) : n < sizeLine := Nat.lt_of_le_of_lt h (by decide)
def spDraw : Sp := fun vs H Q _ => ∃ (b : Addr) (many : Int), vs = [.ref b, .int many] ∧ 0 < many ∧ Box H b ∧ ∀ (r : Int) (H' : Hp), 0 ≤ r → r < many → Drew b H H' → Q (.int r) H'
def names8 : List Str := ["a", "b", "c", "d", "e", "ab", "bc", "cd"]
def spName : Sp := fun vs H Q _ => ∃ b : Addr, vs = [.ref b] ∧ Box H b ∧ ∀ (z : Str) (H' : Hp), z ∈ names8 → Drew b H H' → Q (.str z) H'
section
variable {P : Program} {w : World} {K : PySem.W.Frag} {mg : Str → Option Value} {base : Heap} {f : Addr} {fd : FuncData}
theorem ok_law_cell (F : Fun K "_law_cell" "_law_cell" s_law_cell f fd) (z : Z mg) : FnOk P w K mg base CX0 1 f fd ["script", "k"] (spCell K) := by
  refine F.ok sc_law_cell (fun vs H Q E h => ?_) (fun cdv A outer s H vs Q E hr h => ?_)
  · obtain ⟨l, ns, k, rfl, _⟩ := h
    rfl
  · obtain ⟨l, ns, k, rfl, hs, q⟩ := h
    refine ⟨_, (pss_cons (ps_if (pt_cmpR op_lt (pv 1) (pe_callB call_len_seq (by rfl) z.len PySem.boot_len (pa_cons (pv 0) pa_nil)) (nomark _))
        (pss_one (ps_ret (pe_ix ix_list (pv 0) (pv 1) (fun _ _ => rfl))))
        pss_nil)
      (pss_one (ps_ret pe_int))), ?_⟩
    refine ⟨_, rfl, .ref l, rfl, l, ns.map V.int, rfl, .inl hs, _, _, rfl, rfl, _, rfl, ite2 (fun e => ?_) (fun e => ?_)⟩
    · have lt : k < ns.length := by
        have e := of_decide_eq_true e
        rw [List.length_map] at e
        omega
      exact ⟨.ref l, rfl, _, rfl, l, _, _, _, rfl, rfl, hs, atI_nat (j := k) (by rw [List.getElem?_map, List.getElem?_eq_getElem lt]; rfl), q _⟩
    · exact q 0
theorem ok_law_draw (F : Fun K "_law_draw" "_law_draw" s_law_draw f fd) (z : Z mg) : FnOk P w K mg base CX0 1 f fd ["box", "many"] spDraw := by
  refine F.ok sc_law_draw (fun vs H Q E h => ?_) (fun cdv A outer s H vs Q E hr h => ?_)
  · obtain ⟨b, many, rfl, _⟩ := h
    rfl
  · obtain ⟨b, many, rfl, hm, ⟨d, ds, n, hb, hd, ne, few⟩, q⟩ := h
    refine ⟨_, (pss_cons (ps_set (i := 2) sc_law_draw.nd rfl (Or.inl rfl) (pe_ix ix_list (pv 0) pe_int (fun _ _ => rfl)))
      (pss_cons (ps_asg (pe_op op_add (pv 2) pe_int) (pg_sub (pv 0) pe_int set_list))
      (pss_cons (ps_if (pt_cmpR op_lt (pv 2) (pe_callB call_len_seq (by rfl) z.len PySem.boot_len (pa_cons (pe_ix ix_list (pv 0) pe_int (fun _ _ => rfl)) pa_nil)) (nomark _))
        (pss_one (ps_ret (pe_op op_mod (pe_callTy call_int1 (by rfl) z.int (by decide +kernel) (pa_cons (pe_ix ix_list (pe_ix ix_list (pv 0) pe_int (fun _ _ => rfl)) (pv 2) (fun _ _ => rfl)) pa_nil)) (pv 1))))
        pss_nil)
      (pss_one (ps_ret (pe_op op_mod (pe_callTy call_int1 (by rfl) z.int (by decide +kernel) (pa_cons (pe_op op_add (pe_op op_mul (pv 2) pe_int) pe_int) pa_nil)) (pv 1))))))), ?_⟩
    have hB : ∀ {H : Hp} {m : Int}, H b = some (.lst [.ref d, .int m]) → SqL K H b [.ref d, .int m] := fun e => .inl (.inl e)
    -- one draw further
    refine ⟨.ref b, rfl, b, _, _, .int (n : Nat), rfl, rfl, hB hb, rfl, ?_⟩
    refine ⟨_, rfl, _, _, rfl, rfl, .ref b, rfl, b, _, _, 1, rfl, rfl, hb, rfl, ?_⟩
    have hb' : (upd H b (.lst ([.ref d, .int (n : Nat)].set 1 (.int ((n : Nat) + 1))))) b = some (.lst [.ref d, .int ((n + 1 : Nat) : Int)]) := upd_same
    have hd' : (upd H b (.lst ([.ref d, .int (n : Nat)].set 1 (.int ((n : Nat) + 1))))) d = some (.lst (ds.map V.int)) := by rw [upd_ne ne]; exact hd
    have dr : Drew b H (upd H b (.lst ([.ref d, .int (n : Nat)].set 1 (.int ((n : Nat) + 1))))) := ⟨⟨d, ds, n + 1, hb', hd', ne, few⟩, fun d' B => by
      obtain ⟨ds', n', e1, e2, ne', few'⟩ := B
      rw [hb] at e1
      cases e1
      exact ⟨ds, n + 1, hb', hd', ne, few⟩, fun p o np e => by rw [upd_ne np]; exact e⟩
    -- if at < len(box[0])
    refine ⟨_, rfl, .ref b, rfl, b, _, _, .ref d, rfl, rfl, hB hb', rfl, d, _, rfl, .inl (.inl (.inl hd')), _, _, rfl, rfl, _, rfl, ite2 (fun e => ?_) (fun e => ?_)⟩
    · have lt : n < ds.length := by
        have e := of_decide_eq_true e
        rw [List.length_map] at e
        omega
      refine ⟨.ref b, rfl, b, _, _, .ref d, rfl, rfl, hB hb', rfl, _, rfl, d, _, _, .int ds[n], rfl, rfl, .inl (.inl hd'), atI_nat (j := n) (by rw [List.getElem?_map, List.getElem?_eq_getElem lt]; rfl), .inl ⟨_, rfl, ?_⟩⟩
      exact ⟨_, rfl, _, _, rfl, rfl, hm, q _ _ (Int.emod_nonneg _ (by omega)) (Int.emod_lt_of_pos _ hm) dr⟩
    · refine ⟨_, rfl, _, _, rfl, rfl, .inr ⟨by decide, by decide⟩, _, _, rfl, rfl, .inl ⟨_, rfl, ?_⟩⟩
      exact ⟨_, rfl, _, _, rfl, rfl, hm, q _ _ (Int.emod_nonneg _ (by omega)) (Int.emod_lt_of_pos _ hm) dr⟩
theorem ok_law_digits (F : Fun K "_law_digits" "_law_digits" s_law_digits f fd) (z : Z mg) (claw_cell : Cal P w K mg base "_law_cell" 1 ["script", "k"] (spCell K)) :
    FnOk P w K mg base CX0 2 f fd ["script", "first", "last"] (spDigits K) := by
  refine F.ok sc_law_digits (fun vs H Q E h => ?_) (fun cdv A outer s H vs Q E hr h => ?_)
  · obtain ⟨l, ns, a, b, rfl, _⟩ := h
    rfl
  · obtain ⟨l, ns, a, b, rfl, hs, ha, hb, q⟩ := h
    refine ⟨_, (pss_cons (ps_set (i := 3) sc_law_digits.nd rfl (Or.inl rfl) (pe_lst pa_nil))
      (pss_cons (ps_for PassesOwn.never rfl (pi_range2 (by rfl) z.range (pa_cons (pv 1) (pa_cons (pv 2) pa_nil))) (pg_name (i := 4) sc_law_digits.nd rfl (Or.inl rfl))
        (pss_cons (ps_set (i := 5) sc_law_digits.nd rfl (Or.inl rfl) (pe_cal claw_cell (hr.mono (by decide)) (by rfl) (pa_cons (pv 0) (pa_cons (pv 4) pa_nil))))
        (pss_cons (ps_if (pt_cmpR op_lt (pv 5) pe_int (nomark _))
          (pss_one (ps_set (i := 5) sc_law_digits.nd rfl (Or.inl rfl) (pe_op op_sub pe_int (pe_op op_mul pe_int (pv 5)))))
          pss_nil)
        (pss_one (ps_if (pt_cmpR op_ge (pv 5) pe_int (nomark _))
          (pss_one (ps_for PassesOwn.never rfl (pi_range1 (by rfl) z.range (pa_cons pe_int pa_nil)) (pg_name (i := 6) sc_law_digits.nd rfl (Or.inl rfl))
            (pss_one (ps_if (pt_cmpR op_gt (pv 5) pe_int (nomark _))
              (pss_cons (ps_expr (pe_bm PySem.F.plainAttrs_list PySem.F.slot_list_append PySem.F.type_list_append mt_append (pv 3) (pa_cons (pe_op op_mod (pe_callTy call_int1 (by rfl) z.int (by decide +kernel) (pa_cons (pv 5) pa_nil)) pe_int) pa_nil)))
              (pss_one (ps_set (i := 5) sc_law_digits.nd rfl (Or.inl rfl) (pe_op op_fdiv (pv 5) pe_int))))
              pss_nil))))
          (pss_cons (ps_set (i := 7) sc_law_digits.nd rfl (Or.inl rfl) (pe_op op_mod (pe_callTy call_int1 (by rfl) z.int (by decide +kernel) (pa_cons (pe_op op_add (pe_op op_add (pe_op op_mul (pv 5) pe_int) (pe_op op_mul (pv 4) pe_int)) pe_int) pa_nil)) pe_int))
          (pss_one (ps_for PassesOwn.never rfl (pi_range1 (by rfl) z.range (pa_cons pe_int pa_nil)) (pg_name (i := 6) sc_law_digits.nd rfl (Or.inl rfl))
            (pss_cons (ps_set (i := 7) sc_law_digits.nd rfl (Or.inl rfl) (pe_op op_mod (pe_callTy call_int1 (by rfl) z.int (by decide +kernel) (pa_cons (pe_op op_add (pe_op op_add (pe_op op_mul (pv 7) pe_int) (pe_op op_mul pe_int (pv 6))) pe_int) pa_nil)) pe_int))
            (pss_one (ps_expr (pe_bm PySem.F.plainAttrs_list PySem.F.slot_list_append PySem.F.type_list_append mt_append (pv 3) (pa_cons (pe_op op_mod (pe_callTy call_int1 (by rfl) z.int (by decide +kernel) (pa_cons (pe_op op_fdiv (pv 7) pe_int) pa_nil)) pe_int) pa_nil)))))))))))))
      (pss_one (ps_ret (pv 3))))), ?_⟩
    -- digits = []
    refine ⟨Nat.zero_le _, fun D nD => ?_⟩
    -- cell by cell
    refine ⟨_, rfl, _, rfl, _, _, rfl, ⟨by omega, by omega, by omega, by omega⟩, ?_⟩
    refine for_range (lo := (a : Int)) (n := ((b : Int) - (a : Int)).toNat) (fun i σ H3 => ∃ (y4 y5 y6 y7 : Option V) (ds : List Int), σ = [some (.ref l), some (.int (a : Nat)), some (.int (b : Nat)), some (.ref D), y4, y5, y6, y7] ∧
      Same H H3 ∧ H3 D = some (.lst (ds.map V.int)) ∧ ds.length ≤ 60 * i) ⟨none, none, none, none, [], rfl, same_new nD, upd_same, Nat.zero_le _⟩ ?_ ?_
    · rintro i σ H3 hi ⟨y4, y5, y6, y7, ds, rfl, sm, hD, few⟩
      have hi' : i < 63 := by omega
      -- a cell
      refine ⟨.ref l, rfl, .int ((a : Int) + i), rfl, l, ns, a + i, by simp, sm.seq hs, fun c => ?_⟩
      have appd : ∀ {H4 : Hp} {es : List Int} (x : Int), H4 D = some (.lst (es.map V.int)) → Same H H4 → Same H (upd H4 D (.lst (es.map V.int ++ [.int x]))) := fun x e s p o q => by
        rw [upd_ne (ne_of_none q nD)]
        exact s p o q
      -- if cell < 0
      refine ⟨_, rfl, _, _, rfl, rfl, _, rfl, ite2 (fun _ => ?_) (fun _ => ?_)⟩
      · refine ⟨_, rfl, _, _, rfl, rfl, .inl ⟨by decide, by decide⟩, _, _, rfl, rfl, ?_⟩
        refine ⟨_, rfl, _, _, rfl, rfl, _, rfl, ite2 (fun _ => ?_) (fun _ => ?_)⟩
        · -- sixty turns
          refine ⟨60, rfl, by decide, by decide, ?_⟩
          refine for_range (lo := 0) (n := 60) (fun j σ H4 => ∃ (x6 x7 : Option V) (c : Int) (es : List Int), σ = [some (.ref l), some (.int (a : Nat)), some (.int (b : Nat)), some (.ref D), some (.int ((a : Int) + i)), some (.int c), x6, x7] ∧
            Same H H4 ∧ H4 D = some (.lst (es.map V.int)) ∧ es.length ≤ ds.length + j) ⟨_, _, _, ds, rfl, sm, hD, Nat.le_refl _⟩ ?_ ?_
          · rintro j σ H4 hj ⟨x6, x7, c, es, rfl, sm4, hD4, few4⟩
            refine ⟨_, rfl, _, _, rfl, rfl, _, rfl, ite2 (fun _ => ?_) (fun _ => ?_)⟩
            · refine ⟨.ref D, rfl, .inl ⟨rfl, _, .inl (.inl hD4)⟩, _, rfl, .inl ⟨_, rfl, ?_⟩⟩
              refine ⟨_, _, rfl, rfl, (by show (0 : Int) < 1000; decide), D, _, _, rfl, rfl, hD4, small5 (by rw [List.length_map]; omega), ?_⟩
              exact ⟨_, rfl, _, _, rfl, rfl, ⟨by decide, by decide⟩, _, _, _, es ++ [c % 1000], rfl, appd _ hD4 sm4, by rw [upd_same, List.map_append]; rfl, by rw [List.length_append]; simp only [List.length_singleton]; omega⟩
            · exact ⟨_, _, _, es, rfl, sm4, hD4, by omega⟩
          · rintro σ H4 ⟨x6, x7, c, es, rfl, sm4, hD4, few4⟩
            exact ⟨_, _, _, _, es, rfl, sm4, hD4, by omega⟩
        · -- twelve turns
          refine ⟨_, rfl, _, _, rfl, rfl, .inr ⟨by decide, by decide⟩, _, rfl, _, _, rfl, rfl, .inr ⟨by decide, by decide⟩, _, _, rfl, rfl, _, _, rfl, rfl, .inl ⟨_, rfl, ?_⟩⟩
          refine ⟨_, _, rfl, rfl, (by show (0 : Int) < 2147483399; decide), ?_⟩
          refine ⟨12, rfl, by decide, by decide, ?_⟩
          refine for_range (lo := 0) (n := 12) (fun j σ H4 => ∃ (x5 x6 : Option V) (c : Int) (es : List Int), σ = [some (.ref l), some (.int (a : Nat)), some (.int (b : Nat)), some (.ref D), some (.int ((a : Int) + i)), x5, x6, some (.int c)] ∧
            Same H H4 ∧ H4 D = some (.lst (es.map V.int)) ∧ es.length ≤ ds.length + j) ⟨_, _, _, ds, rfl, sm, hD, Nat.le_refl _⟩ ?_ ?_
          · rintro j σ H4 hj ⟨x5, x6, c, es, rfl, sm4, hD4, few4⟩
            refine ⟨_, rfl, _, _, rfl, rfl, .inr ⟨by decide, by decide⟩, _, rfl, _, _, rfl, rfl, .inl ⟨by decide, by decide⟩, _, _, rfl, rfl, _, _, rfl, rfl, .inl ⟨_, rfl, ?_⟩⟩
            refine ⟨_, _, rfl, rfl, (by show (0 : Int) < 2147483563; decide), ?_⟩
            refine ⟨.ref D, rfl, .inl ⟨rfl, _, .inl (.inl hD4)⟩, _, rfl, _, _, rfl, rfl, ⟨by decide, by decide⟩, .inl ⟨_, rfl, ?_⟩⟩
            refine ⟨_, _, rfl, rfl, (by show (0 : Int) < 1000; decide), D, _, _, rfl, rfl, hD4, small5 (by rw [List.length_map]; omega), ?_⟩
            exact ⟨_, _, _, es ++ [_], rfl, appd _ hD4 sm4, by rw [upd_same, List.map_append]; rfl, by rw [List.length_append]; simp only [List.length_singleton]; omega⟩
          · rintro σ H4 ⟨x5, x6, c, es, rfl, sm4, hD4, few4⟩
            exact ⟨_, _, _, _, es, rfl, sm4, hD4, by omega⟩
      · skip
        refine ⟨_, rfl, _, _, rfl, rfl, _, rfl, ite2 (fun _ => ?_) (fun _ => ?_)⟩
        · -- sixty turns
          refine ⟨60, rfl, by decide, by decide, ?_⟩
          refine for_range (lo := 0) (n := 60) (fun j σ H4 => ∃ (x6 x7 : Option V) (c : Int) (es : List Int), σ = [some (.ref l), some (.int (a : Nat)), some (.int (b : Nat)), some (.ref D), some (.int ((a : Int) + i)), some (.int c), x6, x7] ∧
            Same H H4 ∧ H4 D = some (.lst (es.map V.int)) ∧ es.length ≤ ds.length + j) ⟨_, _, _, ds, rfl, sm, hD, Nat.le_refl _⟩ ?_ ?_
          · rintro j σ H4 hj ⟨x6, x7, c, es, rfl, sm4, hD4, few4⟩
            refine ⟨_, rfl, _, _, rfl, rfl, _, rfl, ite2 (fun _ => ?_) (fun _ => ?_)⟩
            · refine ⟨.ref D, rfl, .inl ⟨rfl, _, .inl (.inl hD4)⟩, _, rfl, .inl ⟨_, rfl, ?_⟩⟩
              refine ⟨_, _, rfl, rfl, (by show (0 : Int) < 1000; decide), D, _, _, rfl, rfl, hD4, small5 (by rw [List.length_map]; omega), ?_⟩
              exact ⟨_, rfl, _, _, rfl, rfl, ⟨by decide, by decide⟩, _, _, _, es ++ [c % 1000], rfl, appd _ hD4 sm4, by rw [upd_same, List.map_append]; rfl, by rw [List.length_append]; simp only [List.length_singleton]; omega⟩
            · exact ⟨_, _, _, es, rfl, sm4, hD4, by omega⟩
          · rintro σ H4 ⟨x6, x7, c, es, rfl, sm4, hD4, few4⟩
            exact ⟨_, _, _, _, es, rfl, sm4, hD4, by omega⟩
        · -- twelve turns
          refine ⟨_, rfl, _, _, rfl, rfl, .inr ⟨by decide, by decide⟩, _, rfl, _, _, rfl, rfl, .inr ⟨by decide, by decide⟩, _, _, rfl, rfl, _, _, rfl, rfl, .inl ⟨_, rfl, ?_⟩⟩
          refine ⟨_, _, rfl, rfl, (by show (0 : Int) < 2147483399; decide), ?_⟩
          refine ⟨12, rfl, by decide, by decide, ?_⟩
          refine for_range (lo := 0) (n := 12) (fun j σ H4 => ∃ (x5 x6 : Option V) (c : Int) (es : List Int), σ = [some (.ref l), some (.int (a : Nat)), some (.int (b : Nat)), some (.ref D), some (.int ((a : Int) + i)), x5, x6, some (.int c)] ∧
            Same H H4 ∧ H4 D = some (.lst (es.map V.int)) ∧ es.length ≤ ds.length + j) ⟨_, _, _, ds, rfl, sm, hD, Nat.le_refl _⟩ ?_ ?_
          · rintro j σ H4 hj ⟨x5, x6, c, es, rfl, sm4, hD4, few4⟩
            refine ⟨_, rfl, _, _, rfl, rfl, .inr ⟨by decide, by decide⟩, _, rfl, _, _, rfl, rfl, .inl ⟨by decide, by decide⟩, _, _, rfl, rfl, _, _, rfl, rfl, .inl ⟨_, rfl, ?_⟩⟩
            refine ⟨_, _, rfl, rfl, (by show (0 : Int) < 2147483563; decide), ?_⟩
            refine ⟨.ref D, rfl, .inl ⟨rfl, _, .inl (.inl hD4)⟩, _, rfl, _, _, rfl, rfl, ⟨by decide, by decide⟩, .inl ⟨_, rfl, ?_⟩⟩
            refine ⟨_, _, rfl, rfl, (by show (0 : Int) < 1000; decide), D, _, _, rfl, rfl, hD4, small5 (by rw [List.length_map]; omega), ?_⟩
            exact ⟨_, _, _, es ++ [_], rfl, appd _ hD4 sm4, by rw [upd_same, List.map_append]; rfl, by rw [List.length_append]; simp only [List.length_singleton]; omega⟩
          · rintro σ H4 ⟨x5, x6, c, es, rfl, sm4, hD4, few4⟩
            exact ⟨_, _, _, _, es, rfl, sm4, hD4, by omega⟩
    · rintro σ H3 ⟨y4, y5, y6, y7, ds, rfl, sm, hD, few⟩
      exact ⟨.ref D, rfl, q H3 D ds sm nD hD (by omega)⟩
end
end K07

namespace K07
open PySem PySem.Spec PyProof.Rows L2 Pg
theorem seqT_same {K : PySem.W.Frag} {H H' : Hp} {a : Addr} {xs : List V} (e : Same H H') (h : SqT K H a xs) : SqT K H' a xs := by
  rcases h with (h | ⟨o, h⟩) | h
  · exact .inl (.inl (e _ _ h))
  · exact .inl (.inr ⟨o, e _ _ h⟩)
  · exact .inr h
theorem yes {σ : L2.St} {H : Hp} {Q : Bool → Hp → Prop} (h : Q true H) : tYes σ H Q := h
theorem Drew.pre {b : Addr} {H H1 H2 : Hp} (s : Same H H1) (x : Drew b H1 H2) : Drew b H H2 := ⟨x.box, fun d e => x.dig d (e.same s), fun p o n e => x.keep p o n (s _ _ e)⟩
theorem at_in {xs : List V} {r : Int} (h0 : 0 ≤ r) (h1 : r < xs.length) : ∃ v, v ∈ xs ∧ atI xs r = some v := by
  obtain ⟨j, rfl⟩ := Int.eq_ofNat_of_zero_le h0
  have lt : j < xs.length := by omega
  exact ⟨xs[j], List.getElem_mem lt, atI_nat (List.getElem?_eq_getElem lt)⟩
/-- plain signs, without the percent sign -/
def plainB (c : Nat) : Bool := decide (32 ≤ c ∧ c ≤ 126 ∧ c ≠ 37)
/-- .. and without the double quote -/
def safeB (c : Nat) : Bool := plainB c && (decide (c ≠ 34) && decide (c ≠ 108))
def Plain (z : Str) : Prop := ∀ c ∈ z.cps.toList, plainB c = true
def Safe (z : Str) : Prop := ∀ c ∈ z.cps.toList, safeB c = true
theorem Safe.plain {z : Str} (h : Safe z) : Plain z := fun c hc => (Bool.and_eq_true_iff.mp (h c hc)).1
theorem app_codes (x y : Str) : (x ++ y).cps.toList = x.cps.toList ++ y.cps.toList := by
  show (x.cps ++ y.cps).toList = _
  rw [Array.toList_append]
theorem Safe.app {x y : Str} (a : Safe x) (b : Safe y) : Safe (x ++ y) := fun c hc => by
  rw [app_codes] at hc
  rcases List.mem_append.mp hc with h | h
  · exact a c h
  · exact b c h
theorem Plain.app {x y : Str} (a : Plain x) (b : Plain y) : Plain (x ++ y) := fun c hc => by
  rw [app_codes] at hc
  rcases List.mem_append.mp hc with h | h
  · exact a c h
  · exact b c h
theorem len_app (x y : Str) : (x ++ y).length = x.length + y.length := by
  show (x.cps ++ y.cps).size = _
  rw [Array.size_append]
  rfl
theorem len_codes (z : Str) : z.length = z.cps.toList.length := by simp [Str.length]
theorem safe_of {z : Str} (h : z.cps.toList.all safeB = true) : Safe z := fun c hc => List.all_eq_true.mp h c hc
/-- the first n signs -/
theorem cut_to (z : Str) (n : Nat) : (cutS z none (some (n : Int))).cps.toList = z.cps.toList.take n := by
  unfold cutS
  rw [HT.sIx_none, show HT.sIx z.length z.length (some (n : Int)) = min n z.length from HT.sIx_nat z.length z.length n]
  show List.take (min n z.length - 0) (List.drop 0 z.cps.toList) = _
  rw [List.drop_zero, Nat.sub_zero, len_codes, List.take_eq_take_iff]
  omega
theorem sizeLine_big {n : Nat} (h : n ≤ 1000000) : n ≤ sizeLine := Nat.le_trans h (by decide)
/-- data that repr shows -/
structure Shows (d : PyData) : Prop where
  ok : d.showable = true
  nd : d.hasDict = false
  dep : d.depth ≤ 40
  sz : d.shown.length ≤ sizeLine
def spAlike (K : PySem.W.Frag) : Sp := fun vs H Q _ => ∃ (x y : V) (d e : PyData), vs = [x, y] ∧ Dp K H x d ∧ Dp K H y e ∧ Shows d ∧ Shows e ∧ Q (.bl (decide (d.shown = e.shown))) H
theorem shows_int {i : Int} (h1 : -999999999999 ≤ i) (h2 : i ≤ 999999999999) : Shows (.int i) := by
  refine ⟨?_, rfl, by show 0 ≤ 40; decide, Nat.le_trans (PyData.shown_int_le2 h1 h2) (by decide)⟩
  show decide (i.natAbs.log2 < 1920) = true
  refine decide_eq_true ?_
  by_cases z : i.natAbs = 0
  · rw [z]
    decide
  · refine (Nat.log2_lt z).mpr (Nat.lt_of_lt_of_le (show i.natAbs < 2 ^ 40 by omega) (Nat.pow_le_pow_right (n := 2) (by decide) (by decide)))
theorem shows_int2 {i j : Int} (h1 : -999999999999 ≤ i) (h2 : i ≤ 999999999999) (h3 : -999999999999 ≤ j) (h4 : j ≤ 999999999999) : Shows (.tuple [.int i, .int j]) := by
  have a := (shows_int h1 h2).ok
  have b := (shows_int h3 h4).ok
  refine ⟨?_, rfl, by show 1 ≤ 40; decide, PyData.shown_fits_bulk (B := 13) (by decide) (by decide) ?_ (by show 0 + 1 + (0 + 1 + 0) ≤ 2 ^ 20; decide)⟩
  · simp only [PyData.showable, PyData.showableAll] at a b ⊢
    rw [a, b]
    rfl
  · simp only [PyData.leavesShort, PyData.leavesShortAll, PyData.shown_int_le2 h1 h2, PyData.shown_int_le2 h3 h4, decide_true, Bool.and_true]
section
variable {P : Program} {w : World} {K : PySem.W.Frag} {mg : Str → Option Value} {base : Heap} {f : Addr} {fd : FuncData}
theorem ok_law_alike (F : Fun K "_law_alike" "_law_alike" s_law_alike f fd) (z : Z mg) : FnG P w K mg base 1 f fd ["one", "two"] (spAlike K) := by
  refine FnG.mk' F sc_law_alike (fun vs H Q E h => ?_) (fun cdv A outer s H vs Q gd hr h => ?_)
  · obtain ⟨x, y, d, e, rfl, _⟩ := h
    rfl
  · obtain ⟨x, y, d, e, rfl, hd, he, gd1, gd2, q⟩ := h
    refine ⟨_, (pss_one (ps_ret (pe_cmpR op_eq (pe_callB (call_reprD gd hr.units) (by rfl) z.repr (by decide +kernel) (pa_cons (pv 0) pa_nil)) (pe_callB (call_reprD gd hr.units) (by rfl) z.repr (by decide +kernel) (pa_cons (pv 1) pa_nil)) (nomark _)))), ?_⟩
    refine ⟨x, rfl, x, d, rfl, hd, gd1.ok, gd1.nd, gd1.dep, gd1.sz, y, rfl, y, e, rfl, he, gd2.ok, gd2.nd, gd2.dep, gd2.sz, rfl, ?_⟩
    have eq : decide (V.str d.shown = V.str e.shown) = decide (d.shown = e.shown) := by
      by_cases h : d.shown = e.shown
      · rw [decide_eq_true h, h]
        exact decide_eq_true rfl
      · rw [decide_eq_false h]
        exact decide_eq_false fun e => h (V.str.inj e)
    show Q (.bl (decide (V.str d.shown = V.str e.shown))) H
    rw [eq]
    exact q
end
end K07

namespace K07
open PySem PySem.Spec PyProof.Rows L2 Pg
/-- a rendering -/
structure Row where
  n : Str
  t : Str
  fs : List PyData
  r : PyData
def Row.d (x : Row) : PyData := .tuple [.str x.n, .str x.t, .tuple x.fs, x.r]
/-- a name with its renderings in the dict -/
def RowAt (K : PySem.W.Frag) (H : Hp) (a : Str × Addr) (b : Str × List Row) : Prop := a.1 = b.1 ∧ LAt K H a.2 (b.2.map Row.d)
def RowsAt (K : PySem.W.Frag) (H : Hp) : List (Str × Addr) → List (Str × List Row) → Prop
  | [], [] => True
  | a :: r, b :: s => RowAt K H a b ∧ RowsAt K H r s
  | _, _ => False
/-- what holds of the renderings that are kept -/
structure CFine (cs : List (Str × List Row)) : Prop where
  nd : (cs.map (·.1)).Nodup
  few : ∀ p ∈ cs, p.2.length ≤ 4
  ok : ∀ p ∈ cs, ∀ x ∈ p.2, Pd 6 5000000 x.d ∧ x.n = p.1
/-- a cache at p, its dict at d -/
def CAt (K : PySem.W.Frag) (C : Addr) (H : Hp) (p d : Addr) (cs : List (Str × List Row)) : Prop :=
  ∃ dx kvs, H p = some (.ins C dx [(("_renderings" : Str), .ref d)]) ∧ H d = some (.dK (enc V.ref kvs)) ∧ RowsAt K H kvs cs ∧ CFine cs ∧ cs.length ≤ 1000
def rowsC (cs : List (Str × List Row)) (k : Str) : List Row := (getS cs k).getD []
def addC (cs : List (Str × List Row)) (x : Row) : List (Str × List Row) := putS cs x.n ((x :: (rowsC cs x.n).filter fun y => !PyData.eqv y.d x.d).take 4)
def keepC (cs : List (Str × List Row)) (names : List Str) : List (Str × List Row) := cs.filter fun p => decide (p.1 ∈ names)
def findC (rows : List Row) (t : Str) (fs : List PyData) : PyData := ((rows.find? fun y => PyData.eqv (.tuple [.str y.t, .tuple y.fs]) (.tuple [.str t, .tuple fs])).map Row.r).getD .none
theorem CFine.tail {b : Str × List Row} {cs : List (Str × List Row)} (f : CFine (b :: cs)) : CFine cs := ⟨(List.nodup_cons.mp f.nd).2, fun p hp => f.few p (List.mem_cons_of_mem _ hp), fun p hp => f.ok p (List.mem_cons_of_mem _ hp)⟩
theorem CFine.nil : CFine [] := ⟨List.nodup_nil, fun p h => (by cases h), fun p h => (by cases h)⟩
theorem RowsAt.keep {K : PySem.W.Frag} {H H' : Hp} : ∀ {kvs : List (Str × Addr)} {cs : List (Str × List Row)}, RowsAt K H kvs cs → CFine cs → KeepT K H H' → (∀ a ∈ kvs, ∀ o, H a.2 = some o → H' a.2 = some o) → RowsAt K H' kvs cs
  | [], [], _, _, _, _ => trivial
  | [], _ :: _, r, _, _, _ => r.elim
  | _ :: _, [], r, _, _, _ => r.elim
  | a :: kvs, b :: cs, ⟨⟨h1, vs, h2, h3⟩, r⟩, f, k, e => by
    have pd : PdA 6 (4 * (5000000 + 1)) (b.2.map Row.d) := PdA.all (fun d hd => by
      obtain ⟨x, hx, rfl⟩ := List.mem_map.mp hd
      exact (f.ok b List.mem_cons_self x hx).1) (by rw [List.length_map]; exact f.few b List.mem_cons_self)
    exact ⟨⟨h1, vs, e a List.mem_cons_self _ h2, pd.keep k h3⟩, RowsAt.keep r f.tail k fun x hx => e x (List.mem_cons_of_mem _ hx)⟩
theorem CAt.same {K : PySem.W.Frag} {C : Addr} {H H' : Hp} {p d : Addr} {cs : List (Str × List Row)} (c : CAt K C H p d cs) (s : Same H H') : CAt K C H' p d cs :=
  let ⟨dx, kvs, h1, h2, h3, h4, h5⟩ := c
  ⟨dx, kvs, s _ _ h1, s _ _ h2, h3.keep h4 (Same.keepT s) fun _ _ o e => s _ o e, h4, h5⟩
theorem RowsAt.get {K : PySem.W.Frag} {H : Hp} : ∀ {kvs : List (Str × Addr)} {cs : List (Str × List Row)} (k : Str), RowsAt K H kvs cs → (getS kvs k = none ∧ getS cs k = none) ∨ ∃ a rs, getS kvs k = some a ∧ getS cs k = some rs ∧ LAt K H a (rs.map Row.d)
  | [], [], k, _ => .inl ⟨rfl, rfl⟩
  | [], _ :: _, _, r => r.elim
  | _ :: _, [], _, r => r.elim
  | a :: kvs, b :: cs, k, ⟨⟨h1, h2⟩, r'⟩ => by
    by_cases e : a.1 = k
    · exact .inr ⟨a.2, b.2, by rw [getS, if_pos e], by rw [getS, if_pos (by rw [← h1]; exact e)], h2⟩
    · rcases RowsAt.get k r' with ⟨e1, e2⟩ | ⟨x, y, e1, e2, e3⟩
      · exact .inl ⟨by rw [getS, if_neg e, e1], by rw [getS, if_neg (by rw [← h1]; exact e), e2]⟩
      · exact .inr ⟨x, y, by rw [getS, if_neg e, e1], by rw [getS, if_neg (by rw [← h1]; exact e), e2], e3⟩
theorem RowsAt.len {K : PySem.W.Frag} {H : Hp} : ∀ {kvs : List (Str × Addr)} {cs : List (Str × List Row)}, RowsAt K H kvs cs → kvs.length = cs.length
  | [], [], _ => rfl
  | [], _ :: _, r => r.elim
  | _ :: _, [], r => r.elim
  | _ :: _, _ :: _, ⟨_, r⟩ => congrArg (· + 1) (RowsAt.len r)
theorem RowsAt.map {K : PySem.W.Frag} {H : Hp} {S : Addr} {k : Str} {rs : List Row} (l : LAt K H S (rs.map Row.d)) : ∀ {kvs : List (Str × Addr)} {cs : List (Str × List Row)}, RowsAt K H kvs cs →
    RowsAt K H (kvs.map fun q => if q.1 = k then (q.1, S) else q) (cs.map fun q => if q.1 = k then (q.1, rs) else q)
  | [], [], _ => trivial
  | [], _ :: _, r => r.elim
  | _ :: _, [], r => r.elim
  | a :: kvs, b :: cs, ⟨⟨h1, h2⟩, r⟩ => by
    refine ⟨?_, RowsAt.map l r⟩
    show RowAt K H (if a.1 = k then (a.1, S) else a) (if b.1 = k then (b.1, rs) else b)
    by_cases e : a.1 = k
    · rw [if_pos e, if_pos (by rw [← h1]; exact e)]
      exact ⟨h1, l⟩
    · rw [if_neg e, if_neg (by rw [← h1]; exact e)]
      exact ⟨h1, h2⟩
theorem RowsAt.put {K : PySem.W.Frag} {H : Hp} {S : Addr} {k : Str} {rs : List Row} (l : LAt K H S (rs.map Row.d)) : ∀ {kvs : List (Str × Addr)} {cs : List (Str × List Row)}, RowsAt K H kvs cs → RowsAt K H (putS kvs k S) (putS cs k rs)
  | [], [], _ => ⟨⟨rfl, l⟩, trivial⟩
  | [], _ :: _, r => r.elim
  | _ :: _, [], r => r.elim
  | a :: kvs, b :: cs, ⟨⟨h1, h2⟩, r⟩ => by
    rw [putS, putS]
    by_cases e : a.1 = k
    · rw [if_pos e, if_pos (by rw [← h1]; exact e)]
      exact ⟨⟨h1, l⟩, RowsAt.map l r⟩
    · rw [if_neg e, if_neg (by rw [← h1]; exact e)]
      exact ⟨⟨h1, h2⟩, RowsAt.put l r⟩
theorem RowsAt.keys {K : PySem.W.Frag} {H : Hp} : ∀ {kvs : List (Str × Addr)} {cs : List (Str × List Row)}, RowsAt K H kvs cs → kvs.map (·.1) = cs.map (·.1)
  | [], [], _ => rfl
  | [], _ :: _, r => r.elim
  | _ :: _, [], r => r.elim
  | a :: kvs, b :: cs, ⟨⟨h1, _⟩, r⟩ => by rw [List.map_cons, List.map_cons, h1, RowsAt.keys r]
theorem RowsAt.at_ {K : PySem.W.Frag} {H : Hp} : ∀ {kvs : List (Str × Addr)} {cs : List (Str × List Row)} {i : Nat} {a : Str × Addr}, RowsAt K H kvs cs → kvs[i]? = some a → ∃ b, cs[i]? = some b ∧ RowAt K H a b
  | a :: kvs, b :: cs, 0, x, ⟨h, _⟩, e => ⟨b, rfl, by rw [← Option.some.inj e]; exact h⟩
  | a :: kvs, b :: cs, i + 1, x, ⟨_, r⟩, e => RowsAt.at_ (i := i) r e
theorem RowsAt.snoc {K : PySem.W.Frag} {H : Hp} {x : Str × Addr} {y : Str × List Row} (h : RowAt K H x y) : ∀ {kvs : List (Str × Addr)} {cs : List (Str × List Row)}, RowsAt K H kvs cs → RowsAt K H (kvs ++ [x]) (cs ++ [y])
  | [], [], _ => ⟨h, trivial⟩
  | [], _ :: _, r => r.elim
  | _ :: _, [], r => r.elim
  | a :: kvs, b :: cs, ⟨h1, r⟩ => ⟨h1, RowsAt.snoc h r⟩
theorem rows_filter {K : PySem.W.Frag} {H : Hp} (names : List Str) : ∀ {kvs : List (Str × Addr)} {cs : List (Str × List Row)}, RowsAt K H kvs cs → RowsAt K H (kvs.filter fun a => decide (a.1 ∈ names)) (keepC cs names)
  | [], [], _ => trivial
  | [], _ :: _, r => r.elim
  | _ :: _, [], r => r.elim
  | a :: kvs, b :: cs, ⟨⟨h1, h2⟩, r⟩ => by
    unfold keepC
    rw [List.filter_cons, List.filter_cons]
    by_cases e : a.1 ∈ names
    · rw [if_pos (decide_eq_true e), if_pos (decide_eq_true (by rw [← h1]; exact e))]
      exact ⟨⟨h1, h2⟩, rows_filter names r⟩
    · rw [if_neg (by simpa using e), if_neg (by rw [← h1]; simpa using e)]
      exact rows_filter names r
theorem CFine.put {cs : List (Str × List Row)} (f : CFine cs) {k : Str} {rs : List Row} (l : rs.length ≤ 4) (ok : ∀ x ∈ rs, Pd 6 5000000 x.d ∧ x.n = k) : CFine (putS cs k rs) := by
  refine ⟨nodup_put k rs f.nd, fun p hp => ?_, fun p hp => ?_⟩
  · rcases mem_put hp with rfl | h
    · exact l
    · exact f.few p h
  · rcases mem_put hp with rfl | h
    · exact ok
    · exact f.ok p h
theorem CFine.filter {cs : List (Str × List Row)} (f : CFine cs) (q : Str × List Row → Bool) : CFine (cs.filter q) := by
  refine ⟨?_, fun p hp => f.few p (List.mem_filter.mp hp).1, fun p hp => f.ok p (List.mem_filter.mp hp).1⟩
  exact f.nd.sublist (List.Sublist.map _ List.filter_sublist)
theorem row_parts {K : PySem.W.Frag} {H : Hp} {v : V} {x : Row} (h : Dp K H v x.d) : ∃ a v2 v3, v = .ref a ∧ SqT K H a [.str x.n, .str x.t, v2, v3] ∧ Dp K H v2 (.tuple x.fs) ∧ Dp K H v3 x.r := by
  unfold Row.d at h
  cases h with
  | tup hs ha =>
    cases ha with
    | cons a1 ha =>
      cases ha with
      | cons a2 ha =>
        cases ha with
        | cons a3 ha =>
          cases ha with
          | cons a4 ha =>
            cases ha
            cases a1
            cases a2
            exact ⟨_, _, _, rfl, hs, a3, a4⟩
theorem rowsC_fine {cs : List (Str × List Row)} (f : CFine cs) (k : Str) : (rowsC cs k).length ≤ 4 ∧ ∀ x ∈ rowsC cs k, Pd 6 5000000 x.d ∧ x.n = k := by
  unfold rowsC
  cases e : getS cs k with
  | none => exact ⟨Nat.zero_le _, fun x hx => by cases hx⟩
  | some rs =>
    have m := get_some e
    exact ⟨f.few _ m, fun x hx => f.ok _ m x hx⟩
theorem addC_fine {cs : List (Str × List Row)} (f : CFine cs) {x : Row} (hx : Pd 6 5000000 x.d) : CFine (addC cs x) := by
  refine f.put ?_ fun y hy => ?_
  · rw [List.length_take]
    omega
  · rcases List.mem_cons.mp (List.mem_of_mem_take hy) with rfl | h
    · exact ⟨hx, rfl⟩
    · exact (rowsC_fine f x.n).2 y (List.mem_filter.mp h).1
theorem rows_pd {cs : List (Str × List Row)} (f : CFine cs) (k : Str) : PdA 6 (4 * (5000000 + 1)) ((rowsC cs k).map Row.d) :=
  PdA.all (n := 4) (fun d hd => by
    obtain ⟨x, hx, rfl⟩ := List.mem_map.mp hd
    exact ((rowsC_fine f k).2 x hx).1) (by rw [List.length_map]; exact (rowsC_fine f k).1)
theorem filt_pd {cs : List (Str × List Row)} (f : CFine cs) (k : Str) (q : Row → Bool) (i : Nat) : PdA 6 (4 * (5000000 + 1)) ((((rowsC cs k).take i).filter q).map Row.d) := by
  have h : ∀ d ∈ (((rowsC cs k).take i).filter q).map Row.d, Pd 6 5000000 d := by
    intro d hd
    obtain ⟨y2, hy2, rfl⟩ := List.mem_map.mp hd
    have h2 := (List.mem_filter.mp hy2).1
    exact ((rowsC_fine f k).2 y2 (List.mem_of_mem_take h2)).1
  refine PdA.all (n := 4) h ?_
  rw [List.length_map]
  exact Nat.le_trans (List.length_filter_le _ _) (Nat.le_trans (List.length_take_le' _ _) (rowsC_fine f k).1)
def spCInit (K : PySem.W.Frag) (C : Addr) : Sp := fun vs H Q _ => ∃ (p dx : Addr), vs = [.ref p] ∧ H p = some (.ins C dx []) ∧ ∀ (d : Addr) (H' : Hp), H d = none → CAt K C H' p d [] → (∀ b o, H b = some o → b ≠ p → H' b = some o) → Q .non H'
def spCRen (K : PySem.W.Frag) (C : Addr) : Sp := fun vs H Q _ => ∃ (p d : Addr) (cs : List (Str × List Row)) (k : Str), vs = [.ref p, .str k] ∧ CAt K C H p d cs ∧ ∀ (H' : Hp) (l : Addr), Same H H' → H l = none → LAt K H' l ((rowsC cs k).map Row.d) → Q (.ref l) H'
def spCAdd (K : PySem.W.Frag) (C : Addr) : Sp := fun vs H Q _ => ∃ (p d : Addr) (cs : List (Str × List Row)) (v : V) (x : Row), vs = [.ref p, v] ∧ CAt K C H p d cs ∧ Dp K H v x.d ∧ Pd 6 5000000 x.d ∧ cs.length < 1000 ∧
  ∀ H', CAt K C H' p d (addC cs x) → (∀ b o, H b = some o → b ≠ d → H' b = some o) → Q .non H'
def spCKeep (K : PySem.W.Frag) (C : Addr) : Sp := fun vs H Q _ => ∃ (p d : Addr) (cs : List (Str × List Row)) (l : Addr) (names : List Str), vs = [.ref p, .ref l] ∧ CAt K C H p d cs ∧ SqL K H l (names.map V.str) ∧
  ∀ H' d', H d' = none → CAt K C H' p d' (keepC cs names) → (∀ b o, H b = some o → b ≠ p → H' b = some o) → Q .non H'
def spCFind (K : PySem.W.Frag) (C : Addr) : Sp := fun vs H Q _ => ∃ (p d : Addr) (cs : List (Str × List Row)) (k t : Str) (l : Addr) (fs : List PyData), vs = [.ref p, .str k, .str t, .ref l] ∧ CAt K C H p d cs ∧ Codes t ∧ t.length ≤ 1000 ∧ LAt K H l fs ∧ PdA 4 4000000 fs ∧
  ∀ H' v, Same H H' → Dp K H' v (findC (rowsC cs k) t fs) → Q v H'
section
variable {P : Program} {w : World} {K : PySem.W.Frag} {mg : Str → Option Value} {base : Heap} {f CCache : Addr} {fd : FuncData}
theorem ok_Cache_init (F : Fun K "__init__" "Cache.__init__" s_Cache_init f fd) (z : Z mg) (T : T_Cache K mg CCache) : FnOk P w K mg base CX0 1 f fd ["self"] (spCInit K CCache) := by
  refine F.ok sc_Cache_init (fun vs H Q E h => ?_) (fun cdv A outer s H vs Q E hr h => ?_)
  · obtain ⟨p, dx, rfl, _⟩ := h
    rfl
  · obtain ⟨p, dx, rfl, hp, q⟩ := h
    refine ⟨_, (pss_one (ps_fld (pv 0) pe_dnewK rfl)), ?_⟩
    intro d hd
    have npd : p ≠ d := ne_of_none hp hd
    refine ⟨_, rfl, p, CCache, dx, [], rfl, (by rw [upd_ne npd]; exact hp), T.cl, T.n_renderings, (by show 0 < 1000; decide), ?_⟩
    refine q d _ hd ⟨dx, [], upd_same, by rw [upd_ne npd.symm, upd_same]; rfl, trivial, CFine.nil, by decide⟩ fun b o e hb => ?_
    rw [upd_ne hb, upd_ne (ne_of_none e hd)]
    exact e
theorem ok_Cache_renderings (F : Fun K "renderings" "Cache.renderings" s_Cache_renderings f fd) (z : Z mg) (T : T_Cache K mg CCache) : FnOk P w K mg base CX0 1 f fd ["self", "name"] (spCRen K CCache) := by
  refine F.ok sc_Cache_renderings (fun vs H Q E h => ?_) (fun cdv A outer s H vs Q E hr h => ?_)
  · obtain ⟨p, d, cs, k, rfl, _⟩ := h
    rfl
  · obtain ⟨p, d, cs, k, rfl, ⟨dx, kvs, h1, h2, h3, h4, h5⟩, q⟩ := h
    refine ⟨_, (pss_one (ps_ret (pe_callTy call_list_of (by rfl) z.list (by decide +kernel) (pa_cons (pe_dget2 (hu_of hr) (pe_fld (pv 0) rfl) (pv 1) (pe_lst pa_nil) ⟨by rfl, by rfl, by rfl, by rfl⟩) pa_nil)))), ?_⟩
    refine ⟨_, rfl, p, CCache, dx, _, _, rfl, h1, T.cl, T.n_renderings, rfl, d, rfl, .inl ⟨_, .inl h2⟩, _, rfl, Nat.zero_le _, fun e ne => ?_⟩
    refine ⟨_, DGet.k (k := Sum.inr k) (same_new ne _ _ h2), ?_⟩
    have pd := rows_pd h4 k
    rw [valV_enc]
    rcases h3.get k with ⟨e1, e2⟩ | ⟨a, rs, e1, e2, vs, e3, e4⟩
    · rw [e1]
      refine ⟨e, [], rfl, .inl (.inl (.inl upd_same)), fun l nl => ?_⟩
      have : rowsC cs k = [] := by unfold rowsC; rw [e2]; rfl
      refine q _ l ((same_new ne).trans (same_new nl)) ((same_new ne).free nl) ?_
      rw [this]
      exact ⟨[], upd_same, .nil⟩
    · rw [e1]
      have er : rowsC cs k = rs := by unfold rowsC; rw [e2]; rfl
      rw [er] at pd
      refine ⟨a, vs, rfl, .inl (.inl (.inl (same_new ne _ _ e3))), fun l nl => ?_⟩
      have sm := (same_new (o := .lst []) ne).trans (same_new (o := .lst vs) nl)
      refine q _ l sm ((same_new ne).free nl) ?_
      rw [er]
      exact ⟨vs, upd_same, pd.keep (Same.keepT sm) e4⟩
theorem ok_Cache_add (F : Fun K "add" "Cache.add" s_Cache_add f fd) (z : Z mg) (T : T_Cache K mg CCache) (cCache_renderings : CalM P w K mg base CCache "renderings" 1 ["self", "name"] (spCRen K CCache)) :
    FnOk P w K mg base CX0 2 f fd ["self", "rendering"] (spCAdd K CCache) := by
  refine F.ok sc_Cache_add (fun vs H Q E h => ?_) (fun cdv A outer s H vs Q E hr h => ?_)
  · obtain ⟨p, d, cs, v, x, rfl, _⟩ := h
    rfl
  · obtain ⟨p, d, cs, v, x, rfl, ca, hx, px, few, q⟩ := h
    refine ⟨_, (pss_cons (ps_set (i := 2) sc_Cache_add.nd rfl (Or.inl rfl) (pe_ix ix_tup (pv 1) pe_int (fun _ _ => rfl)))
      (pss_cons (ps_setLc (i := 3) (own := [("other", 4)]) (g := (gName 4)) rfl sc_Cache_add.nd rfl rfl (sw_true rfl rfl rfl (by decide +kernel)) (pi_list (pe_calM cCache_renderings (hr.mono (by decide)) (pv 0) (pa_cons (pv 2) pa_nil))) (blkOk_by (own := [("other", 4)]) (N := ["self", "rendering", "name", "others", "other"]) (sc := defScope s_Cache_add) (by decide +kernel)) (fun _ _ _ _ _ => pg_name (i := 4) sc_Cache_add.nd rfl (Or.inl rfl)) (fun _ _ _ _ _ => (pts_one (pt_cmpR (op_neDK (K := K) rfl hr.units) (pv 4) (pv 1) (nomark _)))) (fun _ _ _ _ _ => (pv 4)))
      (pss_one (ps_dput (hu_of hr) (pe_fld (pv 0) rfl) (pv 2) (pe_slice sl_list (pe_op op_cat (pe_lst (pa_cons (pv 1) pa_nil)) (pv 3)) po_none (po_some (pe_cI (by rfl) z.c_RENDERINGS_MOST))) rfl)))), ?_⟩
    obtain ⟨a, v2, v3, rfl, ha, _, _⟩ := row_parts hx
    have ca' := ca
    obtain ⟨dx, kvs, h1, h2, h3, h4, h5⟩ := ca'
    refine ⟨_, rfl, a, _, _, .str x.n, rfl, rfl, ha, atI_nat (j := 0) rfl, ?_⟩
    refine ⟨_, rfl, p, dx, _, rfl, h1, rfl, _, rfl, p, d, cs, x.n, rfl, ca, fun H1 l s1 nl hl => ?_⟩
    obtain ⟨vs, hl1, hl2⟩ := hl
    refine ⟨l, rfl, ⟨_, .inl (.inl hl1)⟩, fun D nD => ?_⟩
    have pdr := rows_pd h4 x.n
    have nD0 := s1.free nD
    have lenr := (rowsC_fine h4 x.n).1
    have lenv : vs.length = (rowsC cs x.n).length := by rw [dpAll_len hl2, List.length_map]
    refine lc_list (K := K) (a := l) (xs := vs) (fun i H' => Same H1 H' ∧ ∃ ws, H' D = some (.lst ws) ∧ ws.length ≤ i ∧ DpAll K H' ws ((((rowsC cs x.n).take i).filter fun y => !PyData.eqv y.d x.d).map Row.d))
      ⟨same_new nD, [], upd_same, Nat.le_refl _, .nil⟩ (fun i H' _ ⟨s2, _⟩ => .inl (.inl (s2 _ _ hl1))) ?_ ?_
    · rintro i y H' hy ⟨s2, ws, hD, lw, da⟩
      obtain ⟨y', hy', dy⟩ := dpAll_get' hl2 hy
      rw [List.getElem?_map] at hy'
      obtain ⟨yr, hyr, rfl⟩ : ∃ yr, (rowsC cs x.n)[i]? = some yr ∧ yr.d = y' := by
        cases e : (rowsC cs x.n)[i]? with
        | none => rw [e] at hy'; cases hy'
        | some yr => rw [e] at hy'; exact ⟨yr, rfl, Option.some.inj hy'⟩
      have pdy := ((rowsC_fine h4 x.n).2 yr (List.mem_of_getElem? hyr)).1
      have il : i < vs.length := (List.getElem?_eq_some_iff.mp hy).1
      have tk : (rowsC cs x.n).take (i + 1) = (rowsC cs x.n).take i ++ [yr] := by rw [List.take_add_one, hyr]; rfl
      refine ⟨rfl, _, rfl, _, rfl, yr.d, x.d, pdy.keep (Same.keepT s2) dy, px.keep (Same.keepT (s1.trans s2)) hx, pdy.sz.shaped (by decide), px.sz.shaped (by decide), _, rfl, ite2 (fun e => ?_) (fun e => ?_)⟩
      · have s3 : Same H1 (upd H' D (.lst (ws ++ [y]))) := fun q o e2 => by
          rw [upd_ne (ne_of_none e2 nD)]
          exact s2 _ _ e2
        have kt : KeepT K H' (upd H' D (.lst (ws ++ [y]))) := KeepT.upd (by rw [hD]; intro xs h; cases h) (by rw [hD]; intro b xs h; cases h)
        have pdt := filt_pd h4 x.n (fun y => !PyData.eqv y.d x.d) i
        refine ⟨_, rfl, ws, hD, small5 (by omega), s3, ws ++ [y], upd_same, by rw [List.length_append]; show ws.length + 1 ≤ _; omega, ?_⟩
        rw [tk, List.filter_append, List.map_append]
        refine dpAll_app (pdt.keep kt da) ?_
        have : ([yr].filter fun y => !PyData.eqv y.d x.d) = [yr] := by
          rw [List.filter_cons, if_pos e]
          rfl
        rw [this]
        exact .cons (pdy.keep ((Same.keepT s2).trans kt) dy) .nil
      · refine ⟨s2, ws, hD, by omega, ?_⟩
        have : ([yr].filter fun y => !PyData.eqv y.d x.d) = [] := by
          rw [List.filter_cons, if_neg e]
          rfl
        rw [tk, List.filter_append, this, List.append_nil]
        exact da
    · rintro H2 ⟨s2, ws, hD, lw, da⟩
      rw [lenv, List.take_length] at da
      have s02 := s1.trans s2
      refine ⟨_, rfl, by show 1 ≤ sizeLine; decide, fun A nA => ?_⟩
      have sA : Same H2 (upd H2 A (.lst [.ref a])) := same_new nA
      refine ⟨_, rfl, A, D, _, _, rfl, rfl, upd_same, sA _ _ hD, sizeLine_big (by rw [lenv] at lw; show 1 + ws.length ≤ _; omega), fun B nB => ?_⟩
      have sB : Same H2 (upd (upd H2 A (.lst [.ref a])) B (.lst ([V.ref a] ++ ws))) := sA.trans (same_new nB)
      refine ⟨_, rfl, B, _, rfl, .inl (.inl upd_same), fun S nS => ?_⟩
      have cut : cutV ([V.ref a] ++ ws) none (some 4) = (V.ref a :: ws).take 4 := cutV_up _ 4
      rw [cut]
      have sS := s02.trans (sB.trans (same_new (o := .lst ((V.ref a :: ws).take 4)) nS))
      generalize hH3 : upd (upd (upd H2 A (.lst [.ref a])) B (.lst ([V.ref a] ++ ws))) S (.lst ((V.ref a :: ws).take 4)) = H3 at *
      have hS3 : H3 S = some (.lst ((V.ref a :: ws).take 4)) := by rw [← hH3]; exact upd_same
      have sB3 : Same H2 H3 := by rw [← hH3]; exact sB.trans (same_new nS)
      have pdf := filt_pd h4 x.n (fun y => !PyData.eqv y.d x.d) (rowsC cs x.n).length
      rw [List.take_length] at pdf
      have nS0 : H S = none := s02.free (sB.free nS)
      have neS : S ≠ d := (ne_of_none h2 nS0).symm
      refine ⟨_, rfl, p, CCache, dx, _, _, rfl, sS _ _ h1, T.cl, T.n_renderings, rfl, _, rfl, d, _, rfl, DPut.k (k := Sum.inr x.n) (sS _ _ h2) (small5 (by rw [show (enc V.ref kvs).length = kvs.length from List.length_map _, h3.len]; omega)), ?_⟩
      have h3d : H3 d = some (.dK (enc V.ref kvs)) := sS _ _ h2
      have kt : KeepT K H3 (upd H3 d (.dK (putK (enc V.ref kvs) (Sum.inr x.n) (.ref S)))) := KeepT.upd (by rw [h3d]; intro xs h; cases h) (by rw [h3d]; intro b xs h; cases h)
      refine q _ ⟨dx, putS kvs x.n S, ?_, ?_, ?_, addC_fine h4 px, ?_⟩ fun b o e hb => by rw [upd_ne hb]; exact sS _ _ e
      · rw [upd_ne (ne_of h1 h2 (by intro z; cases z))]
        exact sS _ _ h1
      · rw [upd_same, putK_enc]
      · have ktA : KeepT K H (upd H3 d (.dK (putK (enc V.ref kvs) (Sum.inr x.n) (.ref S)))) := (Same.keepT sS).trans kt
        refine RowsAt.put ⟨_, by rw [upd_ne neS]; exact hS3, ?_⟩ (h3.keep h4 ktA fun b hb o e => ?_)
        · have : DpAll K (upd H3 d (.dK (putK (enc V.ref kvs) (Sum.inr x.n) (.ref S)))) (V.ref a :: ws) ((x :: (rowsC cs x.n).filter fun y => !PyData.eqv y.d x.d).map Row.d) :=
            .cons (px.keep ktA hx) (pdf.keep ((Same.keepT sB3).trans kt) da)
          rw [List.map_take]
          exact dpAll_take 4 this
        · have nb : b.2 ≠ d := by
            rintro e2
            obtain ⟨i, hi⟩ := List.getElem?_of_mem hb
            obtain ⟨b2, _, _, vs2, hb2, _⟩ := h3.at_ hi
            rw [e2, h2] at hb2
            cases hb2
          rw [upd_ne nb]
          exact sS _ _ e
      · exact Nat.le_trans (len_put _ _ _) (by omega)
theorem ok_Cache_find (F : Fun K "find" "Cache.find" s_Cache_find f fd) (z : Z mg) (T : T_Cache K mg CCache) (cCache_renderings : CalM P w K mg base CCache "renderings" 1 ["self", "name"] (spCRen K CCache)) :
    FnOk P w K mg base CX0 2 f fd ["self", "name", "text", "found"] (spCFind K CCache) := by
  refine F.ok sc_Cache_find (fun vs H Q E h => ?_) (fun cdv A outer s H vs Q E hr h => ?_)
  · obtain ⟨p, d, cs, k, t, l, fs, rfl, _⟩ := h
    rfl
  · obtain ⟨p, d, cs, k, t, l, fs, rfl, ca, ct, lt, hl, pf, q⟩ := h
    refine ⟨_, (pss_cons (ps_for PassesOwn.never rfl (pi_list (pe_calM cCache_renderings (hr.mono (by decide)) (pv 0) (pa_cons (pv 1) pa_nil))) (pg_name (i := 4) sc_Cache_find.nd rfl (Or.inl rfl))
        (pss_one (ps_if (pt_cmpR (op_eqD hr.units) (pe_slice sl_tupA (pv 4) (po_some pe_int) (po_some pe_int)) (pe_tup (pa_cons (pv 2) (pa_cons (pe_callTy call_tuple_of (by rfl) z.tuple (by decide +kernel) (pa_cons (pv 3) pa_nil)) pa_nil))) (nomark _))
          (pss_one (ps_ret (pe_ix ix_tup (pv 4) pe_int (fun _ _ => rfl))))
          pss_nil)))
      (pss_one (ps_ret pe_non))), ?_⟩
    have ca' := ca
    obtain ⟨dx, kvs, h1, h2, h3, h4, h5⟩ := ca'
    refine ⟨_, rfl, p, dx, _, rfl, h1, rfl, _, rfl, p, d, cs, k, rfl, ca, fun H1 l2 s1 nl hl2 => ?_⟩
    obtain ⟨vs, hv1, hv2⟩ := hl2
    have fine := rowsC_fine h4 k
    obtain ⟨fv, hf1, hf2⟩ := hl
    refine ⟨l2, rfl, ⟨_, .inl (.inl hv1)⟩, ?_⟩
    refine for_list (K := K) (a := l2) (xs := vs) (fun i σ H3 => ∃ y4 : Option V, σ = [some (.ref p), some (.str k), some (.str t), some (.ref l), y4] ∧ Same H1 H3 ∧
      ∀ y ∈ (rowsC cs k).take i, PyData.eqv (.tuple [.str y.t, .tuple y.fs]) (.tuple [.str t, .tuple fs]) = false) ⟨_, rfl, Same.refl _, by rw [List.take_zero]; intro y hy; cases hy⟩ (fun i σ H3 _ ⟨_, _, s3, _⟩ => .inl (.inl (s3 _ _ hv1))) ?_ ?_
    · rintro i y σ H3 hy ⟨y4, rfl, s3, no⟩
      obtain ⟨y', hy', dy⟩ := dpAll_get' hv2 hy
      rw [List.getElem?_map] at hy'
      obtain ⟨yr, hyr, rfl⟩ : ∃ yr, (rowsC cs k)[i]? = some yr ∧ yr.d = y' := by
        cases e : (rowsC cs k)[i]? with
        | none => rw [e] at hy'; cases hy'
        | some yr => rw [e] at hy'; exact ⟨yr, rfl, Option.some.inj hy'⟩
      have pdy := (fine.2 yr (List.mem_of_getElem? hyr)).1
      have pdr : PdA 6 5000000 [.str yr.n, .str yr.t, .tuple yr.fs, yr.r] := Pd.parts pdy
      have pd1 := pdr.mem (.str yr.t) (by simp)
      have pd2 := pdr.mem (.tuple yr.fs) (by simp)
      have pd3 := pdr.mem yr.r (by simp)
      obtain ⟨ya, v2, v3, rfl, hya, dv2, dv3⟩ := row_parts dy
      have tk : (rowsC cs k).take (i + 1) = (rowsC cs k).take i ++ [yr] := by rw [List.take_add_one, hyr]; rfl
      have hya3 := same_seqT s3 hya
      -- rendering[1:3]
      refine ⟨_, rfl, 1, rfl, 3, rfl, ya, _, rfl, hya3, fun h => ?_, fun _ T nT => ?_⟩
      · have h2 := h.1
        exact absurd (show HT.sIx 4 0 (some 1) = 0 from h2) (by decide +kernel)
      have hT : (upd H3 T (.tup (cutV [.str yr.n, .str yr.t, v2, v3] (some 1) (some 3)))) T = some (.tup [.str yr.t, v2]) := upd_same
      generalize hH4 : upd H3 T (.tup (cutV [.str yr.n, .str yr.t, v2, v3] (some 1) (some 3))) = H4 at *
      have s4 : Same H3 H4 := by rw [← hH4]; exact same_new nT
      -- (text, tuple(found))
      have hf4 := s4 _ _ (s3 _ _ (s1 _ _ hf1))
      refine ⟨_, rfl, _, rfl, l, fv, rfl, .inl ⟨.inl (.inl hf4), fun T2 nT2 => ?_⟩⟩
      refine ⟨by show 2 ≤ sizeLine; decide, fun T3 nT3 => ?_⟩
      have s5 := (same_new (o := .tup fv) nT2).trans (same_new (o := .tup [.str t, .ref T2]) nT3)
      have s14 := (s1.trans s3).trans (s4.trans s5)
      have kt : KeepT K H3 (upd (upd H4 T2 (.tup fv)) T3 (.tup [.str t, .ref T2])) := Same.keepT (s4.trans s5)
      have c1 : Pd 7 (3 * 5000000) (.tuple [.str yr.t, .tuple yr.fs]) := ((PdA.cons pd1 (PdA.cons pd2 PdA.nil)).tup).mono (by decide) (by decide)
      have c2 : Pd 7 (3 * 5000000) (.tuple [.str t, .tuple fs]) := ((PdA.cons ((Pd.str ct lt).mono (Nat.zero_le 6) (Nat.le_refl 1000)) (PdA.cons ((pf.tup).mono (by decide) (Nat.le_refl _)) PdA.nil)).tup).mono (by decide) (by decide)
      have d1 : Dp K (upd (upd H4 T2 (.tup fv)) T3 (.tup [.str t, .ref T2])) (.ref T) (.tuple [.str yr.t, .tuple yr.fs]) :=
        .tup (.inl (.inl (s5 _ _ hT))) (.cons (.str _) (.cons (pd2.keep ((Same.keepT s3).trans kt) dv2) .nil))
      have d2 : Dp K (upd (upd H4 T2 (.tup fv)) T3 (.tup [.str t, .ref T2])) (.ref T3) (.tuple [.str t, .tuple fs]) :=
        .tup (.inl (.inl upd_same)) (.cons (.str _) (.cons (.tup (.inl (.inl (same_new nT3 _ _ upd_same))) (pf.keep (Same.keepT s14) hf2)) .nil))
      refine ⟨_, _, d1, d2, c1.sz.shaped (by decide), c2.sz.shaped (by decide), _, rfl, ite2 (fun e => ?_) (fun e => ?_)⟩
      · have fnd : (rowsC cs k).find? (fun y => PyData.eqv (.tuple [.str y.t, .tuple y.fs]) (.tuple [.str t, .tuple fs])) = some yr := by
          have dec : rowsC cs k = (rowsC cs k).take i ++ yr :: (rowsC cs k).drop (i + 1) := by
            obtain ⟨lt, eq⟩ := List.getElem?_eq_some_iff.mp hyr
            rw [← eq, List.getElem_cons_drop, List.take_append_drop]
          rw [dec, List.find?_append]
          have none1 : ((rowsC cs k).take i).find? (fun y => PyData.eqv (.tuple [.str y.t, .tuple y.fs]) (.tuple [.str t, .tuple fs])) = none := by
            rw [List.find?_eq_none]
            intro y hy
            rw [no y hy]
            decide
          rw [none1, List.find?_cons, e]
          rfl
        refine ⟨.ref ya, rfl, ya, _, _, v3, rfl, rfl, same_seqT (s4.trans s5) hya3, atI_nat (j := 3) rfl, ?_⟩
        refine q _ v3 s14 ?_
        have : findC (rowsC cs k) t fs = yr.r := by
          unfold findC
          rw [fnd]
          rfl
        rw [this]
        exact pd3.keep ((Same.keepT s3).trans kt) dv3
      · refine ⟨_, rfl, s3.trans (s4.trans s5), ?_⟩
        rw [tk]
        intro y hy
        rcases List.mem_append.mp hy with h | h
        · exact no y h
        · rw [List.mem_singleton.mp h]
          simpa using e
    · rintro σ H3 ⟨y4, rfl, s3, no⟩
      have lenv : vs.length = (rowsC cs k).length := by rw [dpAll_len hv2, List.length_map]
      rw [lenv, List.take_length] at no
      refine q _ .non (s1.trans s3) ?_
      have : findC (rowsC cs k) t fs = .none := by
        unfold findC
        have : (rowsC cs k).find? (fun y => PyData.eqv (.tuple [.str y.t, .tuple y.fs]) (.tuple [.str t, .tuple fs])) = none := by
          rw [List.find?_eq_none]
          intro y hy
          rw [no y hy]
          decide
        rw [this]
        rfl
      rw [this]
      exact .non
end
end K07

namespace K07
open PySem PySem.Spec PyProof.Rows L2 Pg
theorem names8_ok : ∀ z ∈ names8, z.length ≤ 2 ∧ z.cps.toList.all safeB = true := by decide +kernel
/-- what a text is made of -/
def parts (nm : Str) : List Str := [("<" ++ nm) ++ ">", ("<" ++ nm) ++ ">", ("<@" ++ nm) ++ ">", ("<@" ++ nm) ++ ">", ("[" ++ nm) ++ "]", ("[" ++ nm) ++ "]", "x", nm, "y z", "!", "<", "[>]"]
theorem parts_ok : ∀ nm ∈ names8, ∀ z ∈ parts nm, z.length ≤ 5 ∧ z.cps.toList.all safeB = true := by decide +kernel
theorem sum1 {x nm : Str} (hx : x.length ≤ 2) (h : nm.length ≤ 2) : x.length + nm.length ≤ sizeLine := sizeLine_big (by omega)
theorem sum2 {x nm y : Str} (hx : x.length ≤ 2) (h : nm.length ≤ 2) (hy : y.length ≤ 1) : (x ++ nm).length + y.length ≤ sizeLine := by
  rw [len_app]
  exact sizeLine_big (by omega)
def spText : Sp := fun vs H Q _ => ∃ (b : Addr) (most : Nat), vs = [.ref b, .int (most : Nat)] ∧ most ≤ 100 ∧ Box H b ∧ ∀ (z : Str) (H' : Hp), z.length ≤ 60 → Safe z → Drew b H H' → Q (.str z) H'
/-- a name: 1 to 6 letters -/
def nameB (z : Str) : Bool := z.cps.toList.all (fun c => decide (97 ≤ c ∧ c ≤ 122)) && decide (1 ≤ z.length ∧ z.length ≤ 6)
def spIsName : Sp := fun vs H Q _ => ∃ z : Str, vs = [.str z] ∧ z.length ≤ 1000 ∧ Q (.bl (nameB z)) H
def alphabet : Str := "abcdefghijklmnopqrstuvwxyz"
theorem alphabet_has : ∀ c : Nat, c ∈ alphabet.cps.toList ↔ 97 ≤ c ∧ c ≤ 122 := by
  have e : alphabet.cps.toList = List.range' 97 26 := by decide +kernel
  intro c
  rw [e, List.mem_range'_1]
  omega
section
variable {P : Program} {w : World} {K : PySem.W.Frag} {mg : Str → Option Value} {base : Heap} {f : Addr} {fd : FuncData}
theorem ok_law_name (F : Fun K "_law_name" "_law_name" s_law_name f fd) (z : Z mg) (claw_draw : Cal P w K mg base "_law_draw" 1 ["box", "many"] spDraw) : FnOk P w K mg base CX0 2 f fd ["box"] spName := by
  refine F.ok sc_law_name (fun vs H Q E h => ?_) (fun cdv A outer s H vs Q E hr h => ?_)
  · obtain ⟨b, rfl, _⟩ := h
    rfl
  · obtain ⟨b, rfl, hb, q⟩ := h
    refine ⟨_, (pss_one (ps_ret (pe_ix ix_list (pe_lst (pa_cons pe_str (pa_cons pe_str (pa_cons pe_str (pa_cons pe_str (pa_cons pe_str (pa_cons pe_str (pa_cons pe_str (pa_cons pe_str pa_nil))))))))) (pe_cal claw_draw (hr.mono (by decide)) (by rfl) (pa_cons (pv 0) (pa_cons pe_int pa_nil))) (fun _ _ => rfl)))), ?_⟩
    refine ⟨by show 8 ≤ sizeLine; decide, fun p np => ?_⟩
    refine ⟨.ref b, rfl, b, 8, rfl, by decide, hb.same (same_new np), fun r H' r0 r1 dr => ?_⟩
    have hp : H' p = some (.lst (names8.map V.str)) := dr.keep p _ (hb.ne np) upd_same
    obtain ⟨v, hv, at_v⟩ := at_in (xs := names8.map V.str) r0 r1
    obtain ⟨z, hz, rfl⟩ := List.mem_map.mp hv
    exact ⟨p, _, _, _, rfl, rfl, .inl (.inl hp), at_v, q z H' hz (dr.pre (same_new np))⟩
theorem ok_law_text (F : Fun K "_law_text" "_law_text" s_law_text f fd) (z : Z mg) (claw_draw : Cal P w K mg base "_law_draw" 1 ["box", "many"] spDraw) (claw_name : Cal P w K mg base "_law_name" 2 ["box"] spName) :
    FnOk P w K mg base CX0 3 f fd ["box", "most"] spText := by
  refine F.ok sc_law_text (fun vs H Q E h => ?_) (fun cdv A outer s H vs Q E hr h => ?_)
  · obtain ⟨b, most, rfl, _⟩ := h
    rfl
  · obtain ⟨b, most, rfl, hm, hb, q⟩ := h
    refine ⟨_, (pss_cons (ps_set (i := 2) sc_law_text.nd rfl (Or.inl rfl) pe_str)
      (pss_cons (ps_for PassesOwn.never rfl (pi_range1 (by rfl) z.range (pa_cons (pe_cal claw_draw (hr.mono (by decide)) (by rfl) (pa_cons (pv 0) (pa_cons (pe_op op_add (pv 1) pe_int) pa_nil))) pa_nil)) (pg_name (i := 3) sc_law_text.nd rfl (Or.inl rfl))
        (pss_cons (ps_set (i := 4) sc_law_text.nd rfl (Or.inl rfl) (pe_cal claw_name (hr.mono (by decide)) (by rfl) (pa_cons (pv 0) pa_nil)))
        (pss_cons (ps_set (i := 5) sc_law_text.nd rfl (Or.inl rfl) (pe_cal claw_draw (hr.mono (by decide)) (by rfl) (pa_cons (pv 0) (pa_cons pe_int pa_nil))))
        (pss_one (ps_set (i := 2) sc_law_text.nd rfl (Or.inl rfl) (pe_op op_add_str (pv 2) (pe_ix ix_list (pe_lst (pa_cons (pe_op op_add_str (pe_op op_add_str pe_str (pv 4)) pe_str) (pa_cons (pe_op op_add_str (pe_op op_add_str pe_str (pv 4)) pe_str) (pa_cons (pe_op op_add_str (pe_op op_add_str pe_str (pv 4)) pe_str) (pa_cons (pe_op op_add_str (pe_op op_add_str pe_str (pv 4)) pe_str) (pa_cons (pe_op op_add_str (pe_op op_add_str pe_str (pv 4)) pe_str) (pa_cons (pe_op op_add_str (pe_op op_add_str pe_str (pv 4)) pe_str) (pa_cons pe_str (pa_cons (pv 4) (pa_cons pe_str (pa_cons pe_str (pa_cons pe_str (pa_cons pe_str pa_nil))))))))))))) (pv 5) (fun _ _ => rfl))))))))
      (pss_one (ps_ret (pe_slice sl_str (pv 2) po_none (po_some pe_int)))))), ?_⟩
    -- so many parts
    refine ⟨.ref b, rfl, _, rfl, _, _, rfl, rfl, b, _, rfl, (by show (0 : Int) < most + 1; omega), hb, fun n H1 n0 n1 d1 => ?_⟩
    have n1' : n < most + 1 := n1
    refine ⟨n, rfl, by omega, by omega, ?_⟩
    refine for_range (lo := 0) (n := n.toNat) (fun i σ H3 => ∃ (y3 y4 y5 : Option V) (t : Str), σ = [some (.ref b), some (.int (most : Nat)), some (.str t), y3, y4, y5] ∧ Drew b H H3 ∧ t.length ≤ 5 * i ∧ Safe t)
      ⟨_, _, _, _, rfl, d1, by decide, by intro c hc; cases hc⟩ ?_ ?_
    · rintro i σ H3 hi ⟨y3, y4, y5, t, rfl, d3, few, safe⟩
      -- a name, a kind
      refine ⟨.ref b, rfl, b, rfl, d3.box, fun nm H4 hn d4 => ?_⟩
      refine ⟨.ref b, rfl, b, _, rfl, by decide, d4.box, fun kd H5 k0 k1 d5 => ?_⟩
      obtain ⟨nl, nsafe⟩ := names8_ok nm hn
      have a1 : ("<" : Str).length ≤ 2 := by decide
      have a2 : ("<@" : Str).length ≤ 2 := by decide
      have a3 : ("[" : Str).length ≤ 2 := by decide
      have b1 : (">" : Str).length ≤ 1 := by decide
      have b2 : ("]" : Str).length ≤ 1 := by decide
      -- text + [..][kind]
      refine ⟨_, rfl, _, rfl, _, _, rfl, rfl, sum1 a1 nl, _, _, rfl, rfl, sum2 a1 nl b1, _, rfl, _, _, rfl, rfl, sum1 a1 nl, _, _, rfl, rfl, sum2 a1 nl b1,
        _, rfl, _, _, rfl, rfl, sum1 a2 nl, _, _, rfl, rfl, sum2 a2 nl b1, _, rfl, _, _, rfl, rfl, sum1 a2 nl, _, _, rfl, rfl, sum2 a2 nl b1,
        _, rfl, _, _, rfl, rfl, sum1 a3 nl, _, _, rfl, rfl, sum2 a3 nl b2, _, rfl, _, _, rfl, rfl, sum1 a3 nl, _, _, rfl, rfl, sum2 a3 nl b2, _, rfl, ?_⟩
      refine ⟨by show 12 ≤ sizeLine; decide, fun p np => ?_⟩
      obtain ⟨v, hv, at_v⟩ := at_in (xs := (parts nm).map V.str) k0 k1
      obtain ⟨it, hit, rfl⟩ := List.mem_map.mp hv
      obtain ⟨il, isafe⟩ := parts_ok nm hn it hit
      have few' : t.length ≤ 500 := by omega
      refine ⟨_, rfl, p, _, _, _, rfl, rfl, .inl (.inl upd_same), at_v, _, _, rfl, rfl, sizeLine_big (by omega), ?_⟩
      exact ⟨_, _, _, t ++ it, rfl, ((d3.trans d4).trans d5).same (same_new np), by rw [len_app]; omega, safe.app (safe_of isafe)⟩
    · rintro σ H3 ⟨y3, y4, y5, t, rfl, d3, few, safe⟩
      have k60 : t.length ≤ 1000 := by omega
      refine ⟨_, rfl, _, rfl, _, rfl, sizeLine_big (by omega), ?_⟩
      have cc := cut_to t 60
      refine q _ H3 ?_ ?_ d3
      · rw [len_codes]
        have h := List.length_take_le 60 t.cps.toList
        rw [← cc] at h
        exact h
      · intro c hc
        have hc' : c ∈ (cutS t none (some ((60 : Nat) : Int))).cps.toList := hc
        rw [cc] at hc'
        exact safe c (List.mem_of_mem_take hc')
theorem ok_law_is_name (F : Fun K "_law_is_name" "_law_is_name" s_law_is_name f fd) (z : Z mg) : FnOk P w K mg base CX0 1 f fd ["text"] spIsName := by
  refine F.ok sc_law_is_name (fun vs H Q E h => ?_) (fun cdv A outer s H vs Q E hr h => ?_)
  · obtain ⟨z, rfl, _⟩ := h
    rfl
  · obtain ⟨t, rfl, few, q⟩ := h
    refine ⟨_, (pss_cons (ps_for PassesOwn.never rfl (pi_str (pv 0)) (pg_name (i := 1) sc_law_is_name.nd rfl (Or.inl rfl))
        (pss_one (ps_if (pt_cmpR op_notIn_sign (pv 1) pe_str (by rfl))
          (pss_one (ps_ret pe_bl))
          pss_nil)))
      (pss_one (ps_ret (pe_chain op_le op_le pe_int (pe_callB call_len_str (by rfl) z.len PySem.boot_len (pa_cons (pv 0) pa_nil)) pe_int)))), ?_⟩
    refine ⟨_, rfl, t, rfl, ?_⟩
    refine for_str (fun i σ H3 => ∃ y1 : Option V, σ = [some (.str t), y1] ∧ H3 = H ∧ ∀ c ∈ t.cps.toList.take i, 97 ≤ c ∧ c ≤ 122) ⟨none, rfl, rfl, by intro c hc; simp at hc⟩ ?_ ?_
    · rintro i c σ H3 hc ⟨y1, rfl, rfl, all⟩
      have mem : c ∈ t.cps.toList := List.mem_of_getElem? hc
      refine ⟨_, rfl, c, _, rfl, rfl, _, rfl, ite2 (fun e => ?_) (fun e => ?_)⟩
      · have no : ¬ (97 ≤ c ∧ c ≤ 122) := fun h => by
          have h' : c ∈ alphabet.cps.toList := (alphabet_has c).mpr h
          have e' : (!decide (c ∈ alphabet.cps.toList)) = true := e
          rw [decide_eq_true h'] at e'
          cases e'
        have : nameB t = false := by
          unfold nameB
          rw [Bool.and_eq_false_iff]
          left
          rw [List.all_eq_false]
          exact ⟨c, mem, by simpa using no⟩
        rw [this] at q
        exact q
      · have yes : 97 ≤ c ∧ c ≤ 122 := (alphabet_has c).mp (by
          have e' : ¬ (!decide (c ∈ alphabet.cps.toList)) = true := e
          simpa using e')
        refine ⟨_, rfl, rfl, fun d hd => ?_⟩
        rw [List.take_add_one, hc] at hd
        rcases List.mem_append.mp hd with h | h
        · exact all d h
        · simp at h
          rw [h]
          exact yes
    · rintro σ H3 ⟨y1, rfl, rfl, all⟩
      have full : t.cps.toList.take t.length = t.cps.toList := List.take_of_length_le (by rw [len_codes]; exact Nat.le_refl _)
      rw [full] at all
      have a1 : t.cps.toList.all (fun c => decide (97 ≤ c ∧ c ≤ 122)) = true := List.all_eq_true.mpr fun c hc => decide_eq_true (all c hc)
      have nb : nameB t = decide (1 ≤ t.length ∧ t.length ≤ 6) := by
        unfold nameB
        rw [a1, Bool.true_and]
      rw [nb] at q
      refine ⟨_, rfl, _, rfl, sizeLine_big (by omega), _, _, rfl, rfl, _, rfl, ite2 (fun e => ?_) (fun e => ?_)⟩
      · have e1 := of_decide_eq_true e
        refine ⟨_, _, rfl, rfl, ?_⟩
        have : decide ((t.length : Int) ≤ 6) = decide (1 ≤ t.length ∧ t.length ≤ 6) := by
          by_cases h : t.length ≤ 6
          · rw [decide_eq_true (by omega), decide_eq_true ⟨by omega, h⟩]
          · rw [decide_eq_false (by omega), decide_eq_false (fun z => h z.2)]
        rw [← this] at q
        exact q
      · have : decide (1 ≤ t.length ∧ t.length ≤ 6) = false := decide_eq_false fun z => e (decide_eq_true (by omega))
        rw [this] at q
        exact q
end
end K07

namespace K07
open PySem PySem.Spec PyProof.Rows L2 Pg
/-- one sign ahead of another -/
theorem sign_lt (a b : Nat) : decide ([a] < [b]) = decide (a < b) := by
  rw [StrLaws.lt_cons_cons, StrLaws.lt_nil_nil]
  simp
def spIsNameP : Sp := fun vs H Q _ => ∃ z : Str, vs = [.str z] ∧ z.length ≤ 1000 ∧ ∀ H', Same H H' → Q (.bl (nameB z)) H'
def afterB (x y : Str) : Bool := decide (y.cps.toList < x.cps.toList)
def spAfter : Sp := fun vs H Q _ => ∃ x y : Str, vs = [.str x, .str y] ∧ Q (.bl (afterB x y)) H
section
variable {P : Program} {w : World} {K : PySem.W.Frag} {mg : Str → Option Value} {base : Heap} {f : Addr} {fd : FuncData}
theorem ok_is_name (F : Fun K "is_name" "is_name" s_is_name f fd) (z : Z mg) : FnOk P w K mg base CX0 1 f fd ["text"] spIsNameP := by
  refine F.ok sc_is_name (fun vs H Q E h => ?_) (fun cdv A outer s H vs Q E hr h => ?_)
  · obtain ⟨z, rfl, _⟩ := h
    rfl
  · obtain ⟨t, rfl, few, q⟩ := h
    refine ⟨_, (pss_one (ps_ret (pe_and (pe_chain op_le op_le pe_int (pe_callB call_len_str (by rfl) z.len PySem.boot_len (pa_cons (pv 0) pa_nil)) (pe_cI (by rfl) z.c_NAME_MOST)) (pe_one (pe_callB (cr_all rfl) (by rfl) z.all (by decide +kernel) (pa_cons (pe_lc (own := [("sign", 1)]) (g := (gName 1)) (tt := tYes) rfl sc_is_name.nd (pi_str (pv 0)) (blkOk_by (own := [("sign", 1)]) (N := ["text", "sign"]) (sc := defScope s_is_name) (by decide +kernel)) (fun _ _ _ _ _ => pg_name (i := 1) sc_is_name.nd rfl (Or.inl rfl)) (fun _ _ _ _ _ => pts_nil) (fun _ _ _ _ _ => (pe_chain op_le_str op_le_str pe_str (pv 1) pe_str))) pa_nil)))))), ?_⟩
    have no : ¬ (1 ≤ t.length ∧ t.length ≤ 6) → nameB t = false := fun h => by
      unfold nameB
      rw [decide_eq_false h, Bool.and_false]
    refine ⟨_, rfl, _, rfl, sizeLine_big (by omega), _, _, rfl, rfl, _, rfl, ite2 (fun e => ?_) (fun e => ?_)⟩
    · have e1 := of_decide_eq_true e
      refine ⟨_, _, rfl, rfl, _, rfl, ite2 (fun e => ?_) (fun e => ?_)⟩
      · have e2 := of_decide_eq_true e
        -- all([..])
        refine ⟨_, rfl, t, rfl, fun D nD => ?_⟩
        refine lc_str (fun i H3 => H3 = upd H D (.lst ((t.cps.toList.take i).map fun c => V.bl (decide (97 ≤ c ∧ c ≤ 122))))) rfl ?_ ?_
        · rintro i c H3 hc rfl
          refine ⟨rfl, yes ?_⟩
          refine iteT ?_
          have step : ∀ b : Bool, b = decide (97 ≤ c ∧ c ≤ 122) → upd (upd H D (.lst ((t.cps.toList.take i).map fun c => V.bl (decide (97 ≤ c ∧ c ≤ 122))))) D (.lst (((t.cps.toList.take i).map fun c => V.bl (decide (97 ≤ c ∧ c ≤ 122))) ++ [V.bl b])) =
              upd H D (.lst ((t.cps.toList.take (i + 1)).map fun c => V.bl (decide (97 ≤ c ∧ c ≤ 122)))) := by
            rintro b rfl
            rw [upd_upd, List.take_add_one, hc, List.map_append]
            rfl
          have small : ((t.cps.toList.take i).map fun c => V.bl (decide (97 ≤ c ∧ c ≤ 122))).length < sizeLine := by
            rw [List.length_map, List.length_take, ← len_codes]
            exact small5 (by omega)
          refine ⟨_, rfl, _, _, rfl, rfl, _, rfl, ite2 (fun e => ?_) (fun e => ?_)⟩
          · have e1 : (!decide ([c] < [97])) = true := e
            rw [sign_lt] at e1
            refine ⟨_, _, rfl, rfl, _, upd_same, small, step _ ?_⟩
            show (!decide ([122] < [c])) = _
            rw [sign_lt]
            have c1 : 97 ≤ c := by simpa using e1
            by_cases h : c ≤ 122
            · simp [c1, h]
            · have h2 : 122 < c := by omega
              simp [h, h2]
          · have e1 : ¬ (!decide ([c] < [97])) = true := e
            rw [sign_lt] at e1
            refine ⟨_, upd_same, small, step _ ?_⟩
            have c1 : c < 97 := by simpa using e1
            exact (decide_eq_false (fun z => absurd z.1 (by omega))).symm
        · rintro H3 rfl
          have full : t.cps.toList.take t.length = t.cps.toList := List.take_of_length_le (by rw [len_codes]; exact Nat.le_refl _)
          rw [full]
          refine ⟨D, t.cps.toList.map fun c => decide (97 ≤ c ∧ c ≤ 122), rfl, .inl (.inl (by rw [upd_same, List.map_map]; rfl)), ?_⟩
          have := q _ (same_new (o := .lst (t.cps.toList.map fun c => V.bl (decide (97 ≤ c ∧ c ≤ 122)))) nD)
          have eq : (t.cps.toList.map fun c => decide (97 ≤ c ∧ c ≤ 122)).all id = nameB t := by
            unfold nameB
            rw [decide_eq_true (p := 1 ≤ t.length ∧ t.length ≤ 6) ⟨by omega, by omega⟩, Bool.and_true, List.all_map]
            rfl
          rw [eq]
          exact this
      · have e2 : ¬ t.length ≤ 6 := fun h => e (decide_eq_true (by omega))
        have := q H (Same.refl H)
        rw [no (fun h => e2 h.2)] at this
        exact this
    · have e1 : ¬ 1 ≤ t.length := fun h => e (decide_eq_true (by omega))
      have := q H (Same.refl H)
      rw [no (fun h => e1 h.1)] at this
      exact ⟨_, rfl, iteF this⟩
theorem ok_is_after (F : Fun K "is_after" "is_after" s_is_after f fd) (z : Z mg) : FnOk P w K mg base CX0 1 f fd ["one", "other"] spAfter := by
  refine F.ok sc_is_after (fun vs H Q E h => ?_) (fun cdv A outer s H vs Q E hr h => ?_)
  · obtain ⟨x, y, rfl, _⟩ := h
    rfl
  · obtain ⟨x, y, rfl, q⟩ := h
    refine ⟨_, (pss_one (ps_ret (pe_cmpR op_gt_str (pv 0) (pv 1) (nomark _)))), ?_⟩
    exact ⟨_, rfl, _, rfl, _, _, rfl, rfl, q⟩
end
end K07

namespace K07
open PySem PySem.Spec PyProof.Rows L2 Pg
/-! ### segments on the heap -/
def TupS (H : Hp) (p : Addr) (s : Seg) : Prop := H p = some (.tup [.str s.1, .str s.2])
def SegsAt (H : Hp) (p : Addr) (l : List Seg) : Prop := ∃ ts : List Addr, H p = some (.lst (ts.map V.ref)) ∧ Paired (TupS H) ts l
theorem SegsAt.same {H H' : Hp} {p : Addr} {l : List Seg} (x : SegsAt H p l) (s : Same H H') : SegsAt H' p l := by
  obtain ⟨ts, e, r⟩ := x
  exact ⟨ts, s _ _ e, Paired.mapP r fun t g h => s _ _ h⟩
theorem tups_upd {H : Hp} {p : Addr} {xs : List V} {o : HO} {ts : List Addr} {l : List Seg} (e : H p = some (.lst xs)) (r : Paired (TupS H) ts l) : Paired (TupS (upd H p o)) ts l :=
  Paired.mapP r fun t g h => by
    show upd H p o t = _
    rw [upd_ne (ne_of h e (by intro z; cases z))]
    exact h
theorem paired_app {α β : Type} {F : α → β → Prop} : ∀ {a : List α} {b : List β} {c : List α} {d : List β}, Paired F a b → Paired F c d → Paired F (a ++ c) (b ++ d)
  | _, _, _, _, .nil, s => s
  | _, _, _, _, .cons r t, s => .cons r (paired_app t s)
theorem paired_len {α β : Type} {F : α → β → Prop} : ∀ {a : List α} {b : List β}, Paired F a b → a.length = b.length
  | _, _, .nil => rfl
  | _, _, .cons _ t => congrArg (· + 1) (paired_len t)
theorem paired_at {α β : Type} {F : α → β → Prop} : ∀ {a : List α} {b : List β} {i : Nat} {y : β}, Paired F a b → b[i]? = some y → ∃ x, a[i]? = some x ∧ F x y
  | _, _, _, _, .nil, h => by simp at h
  | _, _, 0, y, .cons r t, h => by
    obtain rfl := Option.some.inj h
    exact ⟨_, rfl, r⟩
  | _, _, i + 1, y, .cons r t, h => by
    obtain ⟨x, e, f⟩ := paired_at (i := i) t (by simpa using h)
    exact ⟨x, by simpa using e, f⟩
/-- a new segment behind -/
theorem SegsAt.push {H : Hp} {p q : Addr} {l : List Seg} {s : Seg} {ts : List Addr} (e : H p = some (.lst (ts.map V.ref))) (r : Paired (TupS H) ts l) (h : TupS H q s) :
    SegsAt (upd H p (.lst (ts.map V.ref ++ [.ref q]))) p (l ++ [s]) :=
  ⟨ts ++ [q], by rw [upd_same, List.map_append]; rfl, tups_upd e (paired_app r (.cons h .nil))⟩
def spPlain : Sp := fun vs H Q _ => ∃ z : Str, vs = [.str z] ∧ ∀ (H' : Hp) (p : Addr), Same H H' → H p = none → SegsAt H' p (Pg.plain z) → Q (.ref p) H'
def spTextOf (K : PySem.W.Frag) : Sp := fun vs H Q _ => ∃ (p : Addr) (s : Seg), vs = [.ref p] ∧ SqT K H p [.str s.1, .str s.2] ∧ (s.1 = "text" ∨ s.1 ∈ kinds) ∧ s.2.length ≤ 1000 ∧ Q (.str (textOf s)) H
def aft (nm : Str) : Str → Bool := fun z => afterB z nm
def spSegAt : Sp := fun vs H Q _ => ∃ (nm t : Str) (i : Nat), vs = [.str nm, .str t, .int (i : Nat)] ∧ i < t.length ∧ t.length ≤ 1000 ∧
  ∀ H', Same H H' → (brk nameB (aft nm) t i = none → Q .non H') ∧ ∀ k z e, brk nameB (aft nm) t i = some (k, z, e) → ∀ p, H p = none → H' p = some (.tup [.str k, .str z]) → Q (.ref p) H'
def spSplit : Sp := fun vs H Q _ => ∃ nm t : Str, vs = [.str nm, .str t] ∧ t.length ≤ 1000 ∧ ∀ (H' : Hp) (p : Addr), Same H H' → H p = none → SegsAt H' p (segs nameB (aft nm) t 0 0) → Q (.ref p) H'
def spJoin : Sp := fun vs H Q _ => ∃ (p : Addr) (l : List Seg), vs = [.ref p] ∧ SegsAt H p l ∧ l.length ≤ 3000 ∧ (∀ s ∈ l, (s.1 = "text" ∨ s.1 ∈ kinds) ∧ s.2.length ≤ 1000) ∧ ∀ H', Same H H' → Q (.str (glue (l.map textOf))) H'
/-- a written tuple of the module -/
def TupK (K : PySem.W.Frag) (p : Addr) (xs : List V) : Prop := ∃ (o : Obj) (its : Array Value) (n : Nat), K.lookup p = some o ∧ o.cls = .type "tuple" ∧ o.data = .seq its n ∧ its.size ≤ sizeLine ∧ Vals xs its.toList
/-- the table of the signs -/
structure Signs (w : World) (K : PySem.W.Frag) (mg : Str → Option Value) (sg : Addr) : Prop where
  glob : mg "_SIGNS" = some (.ref sg)
  low : (sg == sysModules) = false
  ex : ∃ (es : Array DictEntry) (n : Nat) (p0 p1 p2 : Addr), K.lookup sg = some ⟨.type "dict", none, .dict es n, #[]⟩ ∧ PySem.W.KeysLit w.params es.toList ∧
    Entries es [(.str "include", .ref p0), (.str "indirect", .ref p1), (.str "link", .ref p2)] ∧ TupK K p0 [.str "<", .str ">"] ∧ TupK K p1 [.str "<@", .str ">"] ∧ TupK K p2 [.str "[", .str "]"] ∧
    PySem.W.nsIn K sg "include" = some (some (.ref p0)) ∧ PySem.W.nsIn K sg "indirect" = some (some (.ref p1)) ∧ PySem.W.nsIn K sg "link" = some (some (.ref p2))
theorem name_no64 : ∀ z, nameB z = true → 64 ∉ cd z := by
  intro z h m
  have a := (Bool.and_eq_true_iff.mp h).1
  have := of_decide_eq_true (List.all_eq_true.mp a 64 m)
  omega
section
variable {P : Program} {w : World} {K : PySem.W.Frag} {mg : Str → Option Value} {base : Heap} {f sg : Addr} {fd : FuncData}
theorem ok_plain (F : Fun K "_plain" "_plain" s_plain f fd) (z : Z mg) : FnOk P w K mg base CX0 1 f fd ["characters"] spPlain := by
  refine F.ok sc_plain (fun vs H Q E h => ?_) (fun cdv A outer s H vs Q E hr h => ?_)
  · obtain ⟨z, rfl, _⟩ := h
    rfl
  · obtain ⟨t, rfl, q⟩ := h
    refine ⟨_, (pss_cons (ps_if (pt_cmpR op_eq (pv 0) pe_str (nomark _))
        (pss_one (ps_ret (pe_lst pa_nil)))
        pss_nil)
      (pss_one (ps_ret (pe_lst (pa_cons (pe_tup (pa_cons pe_str (pa_cons (pv 0) pa_nil))) pa_nil))))), ?_⟩
    refine ⟨_, rfl, rfl, _, rfl, ite2 (fun e => ?_) (fun e => ?_)⟩
    · have e1 : t = ⟨#[]⟩ := by rw [← s0]; exact V.str.inj (of_decide_eq_true e)
      refine ⟨Nat.zero_le _, fun p np => q _ p (same_new np) np ⟨[], upd_same, ?_⟩⟩
      unfold Pg.plain
      rw [if_pos e1]
      exact .nil
    · have e1 : ¬ t = ⟨#[]⟩ := fun h => e (decide_eq_true (by rw [h, s0]))
      refine ⟨_, rfl, (by show 2 ≤ sizeLine; decide), fun u nu => ⟨(by show 1 ≤ sizeLine; decide), fun p np => ?_⟩⟩
      have ne : u ≠ p := ne_of_none upd_same np
      have np0 : H p = none := by
        rw [upd_ne ne.symm] at np
        exact np
      refine q _ p ((same_new nu).trans (same_new np)) np0 ⟨[u], upd_same, ?_⟩
      unfold Pg.plain
      rw [if_neg e1]
      refine .cons ?_ .nil
      show upd _ p _ u = _
      rw [upd_ne ne, upd_same]
theorem ok_text_of (F : Fun K "_text_of" "_text_of" s_text_of f fd) (z : Z mg) (gs : Signs w K mg sg) : FnOk P w K mg base CX0 1 f fd ["segment"] (spTextOf K) := by
  refine F.ok sc_text_of (fun vs H Q E h => ?_) (fun cdv A outer s H vs Q E hr h => ?_)
  · obtain ⟨p, s, rfl, _⟩ := h
    rfl
  · obtain ⟨p, ⟨k, x⟩, rfl, hT, hk, few, q⟩ := h
    refine ⟨_, (pss_cons (ps_asg (pv 0) (pg_tup rfl (pgs_cons (pg_name (i := 1) sc_text_of.nd rfl (Or.inl rfl)) (pgs_cons (pg_name (i := 2) sc_text_of.nd rfl (Or.inl rfl)) pgs_nil))))
      (pss_cons (ps_if (pt_cmpR op_eq (pv 1) pe_str (nomark _))
        (pss_one (ps_ret (pv 2)))
        pss_nil)
      (pss_cons (ps_asg (pe_ix ix_kdict (pe_glob (v := V.ref sg) (by rfl) gs.glob rfl) (pv 1) (fun _ _ => rfl)) (pg_tup rfl (pgs_cons (pg_name (i := 3) sc_text_of.nd rfl (Or.inl rfl)) (pgs_cons (pg_name (i := 4) sc_text_of.nd rfl (Or.inl rfl)) pgs_nil))))
      (pss_one (ps_ret (pe_op op_add_str (pe_op op_add_str (pv 3) (pv 2)) (pv 4))))))), ?_⟩
    obtain ⟨es, n, p0, p1, p2, at_d, lit, en, T0, T1, T2, n0, n1, n2⟩ := gs.ex
    -- kind, characters = segment
    refine ⟨_, rfl, p, _, rfl, hT, rfl, _, _, rfl, _, _, rfl, rfl, ?_⟩
    refine ⟨_, rfl, rfl, _, rfl, ite2 (fun e => ?_) (fun e => ?_)⟩
    · have e1 : k = "text" := V.str.inj (of_decide_eq_true e)
      refine ⟨_, rfl, ?_⟩
      unfold textOf at q
      rw [if_pos e1] at q
      exact q
    · have e1 : ¬ k = "text" := fun h => e (decide_eq_true (by rw [h]))
      have hk' : k ∈ kinds := hk.resolve_left e1
      have few' : x.length ≤ 1000 := few
      have sz : ∀ a b : Str, a.length ≤ 2 → b.length ≤ 1 → a.length + x.length ≤ sizeLine ∧ (a ++ x).length + b.length ≤ sizeLine := fun a b ha hb => by
        rw [len_app]
        exact ⟨sizeLine_big (by omega), sizeLine_big (by omega)⟩
      have fin : ∀ (pp : Addr) (a b : Str), PySem.W.nsIn K sg k = some (some (.ref pp)) → TupK K pp [.str a, .str b] → a.length ≤ 2 → b.length ≤ 1 → textOf (k, x) = a ++ x ++ b → True := fun _ _ _ _ _ _ _ _ => trivial
      have cases3 : ∃ (pp : Addr) (a b : Str), PySem.W.nsIn K sg k = some (some (.ref pp)) ∧ TupK K pp [.str a, .str b] ∧ a.length ≤ 2 ∧ b.length ≤ 1 ∧ textOf (k, x) = a ++ x ++ b := by
        have hk2 : k = "include" ∨ k = "indirect" ∨ k = "link" := by
          rcases List.mem_cons.mp hk' with h | h
          · exact Or.inl h
          · rcases List.mem_cons.mp h with h | h
            · exact Or.inr (Or.inl h)
            · exact Or.inr (Or.inr (List.mem_singleton.mp h))
        rcases hk2 with rfl | rfl | rfl
        · exact ⟨p0, _, _, n0, T0, by decide, by decide, text_inc x⟩
        · exact ⟨p1, _, _, n1, T1, by decide, by decide, text_ind x⟩
        · exact ⟨p2, _, _, n2, T2, by decide, by decide, text_link x⟩
      obtain ⟨pp, a, b, nn, TT, la, lb, tx⟩ := cases3
      obtain ⟨z1, z2⟩ := sz a b la lb
      refine ⟨_, rfl, sg, k, .ref pp, rfl, rfl, ⟨es, n, _, at_d, lit, nn, rfl⟩, pp, _, rfl, .inr TT, rfl, _, _, rfl, _, _, rfl, rfl, ?_⟩
      refine ⟨_, rfl, _, rfl, _, _, rfl, rfl, z1, _, rfl, _, _, rfl, rfl, z2, ?_⟩
      rw [← tx]
      exact q
end
end K07

namespace K07
open PySem PySem.Spec PyProof.Rows L2 Pg
def sgn : List (Str × Str × Nat) := [("include", "<", 62), ("indirect", "<@", 62), ("link", "[", 93)]
theorem brk_first {N A : Str → Bool} {t : Str} {i j : Nat} {g : Str × Str × Nat} {r : Str × Str × Nat} (hN : ∀ z, N z = true → 64 ∉ cd z) (hg : sgn[j]? = some g)
    (no : ∀ j' g', j' < j → sgn[j']? = some g' → tryK N A t i g'.1 g'.2.1 g'.2.2 = none) (h : tryK N A t i g.1 g.2.1 g.2.2 = some r) : brk N A t i = some r := by
  rw [brk_try hN]
  match j, hg with
  | 0, hg =>
    obtain rfl := Option.some.inj hg
    rw [h]
    rfl
  | 1, hg =>
    obtain rfl := Option.some.inj hg
    rw [no 0 _ (by omega) rfl, h]
    rfl
  | 2, hg =>
    obtain rfl := Option.some.inj hg
    rw [no 0 _ (by omega) rfl, no 1 _ (by omega) rfl, h]
    rfl
  | j + 3, hg => cases hg
theorem brk_never {N A : Str → Bool} {t : Str} {i : Nat} (hN : ∀ z, N z = true → 64 ∉ cd z) (no : ∀ j' g', j' < 3 → sgn[j']? = some g' → tryK N A t i g'.1 g'.2.1 g'.2.2 = none) : brk N A t i = none := by
  rw [brk_try hN, no 0 _ (by omega) rfl, no 1 _ (by omega) rfl, no 2 _ (by omega) rfl]
  rfl
section
variable {P : Program} {w : World} {K : PySem.W.Frag} {mg : Str → Option Value} {base : Heap} {f sg : Addr} {fd : FuncData}
theorem ok_segment_at (F : Fun K "_segment_at" "_segment_at" s_segment_at f fd) (z : Z mg) (gs : Signs w K mg sg) (cis_name : Cal P w K mg base "is_name" 1 ["text"] spIsNameP)
    (cis_after : Cal P w K mg base "is_after" 1 ["one", "other"] spAfter) : FnOk P w K mg base CX0 2 f fd ["name", "text", "at"] spSegAt := by
  refine F.ok sc_segment_at (fun vs H Q E h => ?_) (fun cdv A outer s H vs Q E hr h => ?_)
  · obtain ⟨nm, t, i, rfl, _⟩ := h
    rfl
  · obtain ⟨nm, t, i, rfl, lt, few, q⟩ := h
    refine ⟨_, (pss_cons (ps_for PassesOwn.never rfl (pi_itemsW (pe_glob (v := V.ref sg) (by rfl) gs.glob rfl)) (pg_tup rfl (pgs_cons (pg_name (i := 3) sc_segment_at.nd rfl (Or.inl rfl)) (pgs_cons (pg_tup rfl (pgs_cons (pg_name (i := 4) sc_segment_at.nd rfl (Or.inl rfl)) (pgs_cons (pg_name (i := 5) sc_segment_at.nd rfl (Or.inl rfl)) pgs_nil))) pgs_nil)))
        (pss_cons (ps_set (i := 6) sc_segment_at.nd rfl (Or.inl rfl) (pe_op op_add (pv 2) (pe_callB call_len_str (by rfl) z.len PySem.boot_len (pa_cons (pv 4) pa_nil))))
        (pss_cons (ps_set (i := 7) sc_segment_at.nd rfl (Or.inl rfl) (pe_bm PySem.F.plainAttrs_str PySem.F.slot_str_find PySem.F.type_str_find mt_find3 (pv 1) (pa_cons (pv 5) (pa_cons (pv 6) pa_nil))))
        (pss_one (ps_if (PW.pt (pw_and (pt_cmpR op_eq (pe_slice sl_str (pv 1) (po_some (pv 2)) (po_some (pv 6))) (pv 4) (nomark _)) (pw_and1 (pt_cmpR op_ge (pv 7) pe_int (nomark _)))))
          (pss_cons (ps_set (i := 8) sc_segment_at.nd rfl (Or.inl rfl) (pe_slice sl_str (pv 1) (po_some (pv 6)) (po_some (pv 7))))
          (pss_one (ps_if (PW.pt (pw_and (pt_val (pe_cal cis_name (hr.mono (by decide)) (by rfl) (pa_cons (pv 8) pa_nil))) (pw_and1 (PW.pt (pw_or (pt_cmpR op_eq (pv 3) pe_str (nomark _)) (pw_or1 (pt_val (pe_cal cis_after (hr.mono (by decide)) (by rfl) (pa_cons (pv 8) (pa_cons (pv 0) pa_nil))))))))))
            (pss_one (ps_ret (pe_tup (pa_cons (pv 3) (pa_cons (pv 8) pa_nil)))))
            pss_nil)))
          pss_nil)))))
      (pss_one (ps_ret pe_non))), ?_⟩
    obtain ⟨es, n, p0, p1, p2, at_d, lit, en, T0, T1, T2, n0, n1, n2⟩ := gs.ex
    refine ⟨sg, es, n, _, rfl, at_d, en, gs.low, ?_⟩
    refine for_itemsW (fun j σ H3 => (∃ y3 y4 y5 y6 y7 y8 : Option V, σ = [some (.str nm), some (.str t), some (.int (i : Nat)), y3, y4, y5, y6, y7, y8]) ∧ Same H H3 ∧
      ∀ j' g', j' < j → sgn[j']? = some g' → tryK nameB (aft nm) t i g'.1 g'.2.1 g'.2.2 = none) ⟨⟨_, _, _, _, _, _, rfl⟩, Same.refl H, fun j' g' h => by omega⟩ ?_ ?_
    · rintro j kv vv σ H3 T hkv ⟨⟨y3, y4, y5, y6, y7, y8, rfl⟩, sm, no⟩ nT
      obtain ⟨k, b, c, pp, rfl, rfl, TT, lb, hg⟩ : ∃ (k b : Str) (c : Nat) (pp : Addr), kv = .str k ∧ vv = .ref pp ∧ TupK K pp [.str b, .str ⟨#[c]⟩] ∧ b.length ≤ 2 ∧ sgn[j]? = some (k, b, c) := by
        match j, hkv with
        | 0, hkv =>
          cases Option.some.inj hkv
          exact ⟨_, "<", 62, p0, rfl, rfl, by rw [← s62]; exact T0, by decide, rfl⟩
        | 1, hkv =>
          cases Option.some.inj hkv
          exact ⟨_, "<@", 62, p1, rfl, rfl, by rw [← s62]; exact T1, by decide, rfl⟩
        | 2, hkv =>
          cases Option.some.inj hkv
          exact ⟨_, "[", 93, p2, rfl, rfl, by rw [← s93]; exact T2, by decide, rfl⟩
        | j + 3, hkv => cases hkv
      have smT : Same H (upd H3 T (.tup [.str k, .ref pp])) := sm.trans (same_new nT)
      -- kind, (before, behind)
      refine ⟨T, _, rfl, .inl (.inl upd_same), rfl, _, _, rfl, _, _, rfl, pp, _, rfl, .inr TT, rfl, _, _, rfl, _, _, rfl, rfl, rfl, ?_⟩
      -- start, end
      refine ⟨_, rfl, _, rfl, b, rfl, sizeLine_big (by omega), _, _, rfl, rfl, ?_⟩
      refine ⟨_, rfl, rfl, _, rfl, _, rfl, t, ⟨#[c]⟩, _, rfl, rfl, ?_⟩
      have cast : ((i : Nat) : Int) + ((b.length : Nat) : Int) = ((i + b.length : Nat) : Int) := by omega
      have fc : Txt.find3 t ⟨#[c]⟩ (((i : Nat) : Int) + ((b.length : Nat) : Int)) = match closeAt t c (i + b.length) with | some k => (k : Int) | none => -1 := by
        rw [cast]
        exact find_close t c (i + b.length)
      have cs : cutS t (some ((i : Nat) : Int)) (some (((i : Nat) : Int) + ((b.length : Nat) : Int))) = sub t i (i + b.length) := by
        rw [cast]
        exact cut_sub t i (i + b.length)
      have next : tryK nameB (aft nm) t i k b c = none → ∀ j' g', j' < j + 1 → sgn[j']? = some g' → tryK nameB (aft nm) t i g'.1 g'.2.1 g'.2.2 = none := by
        intro h j' g' hj hg'
        by_cases e : j' = j
        · subst e
          rw [hg] at hg'
          cases hg'
          exact h
        · exact no j' g' (by omega) hg'
      -- the signs ahead and behind
      refine ⟨_, rfl, _, rfl, _, rfl, _, rfl, _, rfl, t, rfl, sizeLine_big (by omega), _, rfl, rfl, _, rfl, ite2 (fun e => ?_) (fun e => ?_)⟩
      · have e1 : sub t i (i + b.length) = b := by
          rw [← cs]
          exact V.str.inj (of_decide_eq_true e)
        refine ⟨_, rfl, _, _, rfl, rfl, _, rfl, ite2 (fun e => ?_) (fun e => ?_)⟩
        · have e2 : (0 : Int) ≤ Txt.find3 t ⟨#[c]⟩ (((i : Nat) : Int) + ((b.length : Nat) : Int)) := of_decide_eq_true e
          rw [fc] at e2
          cases hc : closeAt t c (i + b.length) with
          | none =>
            rw [hc] at e2
            exact absurd e2 (by decide)
          | some en =>
            rw [hc] at fc
            have cin : cutS t (some (((i : Nat) : Int) + ((b.length : Nat) : Int))) (some (Txt.find3 t ⟨#[c]⟩ (((i : Nat) : Int) + ((b.length : Nat) : Int)))) = sub t (i + b.length) en := by
              rw [fc, cast]
              exact cut_sub t (i + b.length) en
            obtain ⟨c1, c2, _⟩ := close_is hc
            have tr : tryK nameB (aft nm) t i k b c = if (nameB (sub t (i + b.length) en) && (decide (k = "link") || aft nm (sub t (i + b.length) en))) = true then some (k, sub t (i + b.length) en, en + 1) else none := by
              unfold tryK
              rw [if_pos e1, hc]
            generalize hfd : Txt.find3 t ⟨#[c]⟩ (((i : Nat) : Int) + ((b.length : Nat) : Int)) = fd at *
            -- inner
            refine ⟨_, rfl, _, rfl, _, rfl, _, rfl, fd, rfl, t, rfl, sizeLine_big (by omega), ?_⟩
            have il : (sub t (i + b.length) en).length ≤ 1000 := by rw [sub_len (by omega)]; omega
            have win : (nameB (sub t (i + b.length) en) && (decide (k = "link") || aft nm (sub t (i + b.length) en))) = true → brk nameB (aft nm) t i = some (k, sub t (i + b.length) en, en + 1) := fun h =>
              brk_first name_no64 hg no (tr.trans (if_pos h))
            have lose : ¬ (nameB (sub t (i + b.length) en) && (decide (k = "link") || aft nm (sub t (i + b.length) en))) = true → tryK nameB (aft nm) t i k b c = none := fun h => by rw [tr, if_neg h]
            refine ⟨_, rfl, _, rfl, (by rw [cin]; exact il), fun H5 s5 => ⟨_, rfl, ite2 (fun e => ?_) (fun e => ?_)⟩⟩
            · rw [cin] at e
              have fin : brk nameB (aft nm) t i = some (k, sub t (i + b.length) en, en + 1) → ∀ p, H5 p = none → Q (.ref p) (upd H5 p (.tup [.str k, .str (cutS t (some (((i : Nat) : Int) + ((b.length : Nat) : Int))) (some fd))])) := by
                intro hb p np
                refine (q _ ((smT.trans s5).trans (same_new np))).2 _ _ _ hb p ((smT.trans s5).free np) ?_
                rw [upd_same, cin]
              refine ⟨_, rfl, rfl, _, rfl, ite2 (fun e2 => ?_) (fun e2 => ?_)⟩
              · have kl : k = "link" := V.str.inj (of_decide_eq_true e2)
                refine iteT ?_
                refine ⟨_, rfl, _, rfl, (by show 2 ≤ sizeLine; decide), fun p np => fin (win ?_) p np⟩
                rw [e, decide_eq_true kl]
                rfl
              · have kl : ¬ k = "link" := fun h => e2 (decide_eq_true (by rw [h]))
                refine ⟨_, rfl, _, rfl, _, _, rfl, _, rfl, ite2 (fun e3 => ?_) (fun e3 => ?_)⟩
                · refine ⟨_, rfl, _, rfl, (by show 2 ≤ sizeLine; decide), fun p np => fin (win ?_) p np⟩
                  rw [cin] at e3
                  have e4 : aft nm (sub t (i + b.length) en) = true := e3
                  rw [e, e4, Bool.or_true]
                  rfl
                · refine ⟨⟨_, _, _, _, _, _, rfl⟩, smT.trans s5, next (lose ?_)⟩
                  rw [cin] at e3
                  have e4 : ¬ aft nm (sub t (i + b.length) en) = true := e3
                  intro h
                  rw [decide_eq_false kl, Bool.false_or] at h
                  exact e4 (Bool.and_eq_true_iff.mp h).2
            · rw [cin] at e
              exact ⟨⟨_, _, _, _, _, _, rfl⟩, smT.trans s5, next (lose fun h => e (Bool.and_eq_true_iff.mp h).1)⟩
        · have e2 : ¬ (0 : Int) ≤ Txt.find3 t ⟨#[c]⟩ (((i : Nat) : Int) + ((b.length : Nat) : Int)) := fun h => e (decide_eq_true h)
          rw [fc] at e2
          refine ⟨⟨_, _, _, _, _, _, rfl⟩, smT, next ?_⟩
          unfold tryK
          rw [if_pos e1]
          cases hc : closeAt t c (i + b.length) with
          | none => rfl
          | some en =>
            rw [hc] at e2
            exact absurd (Int.natCast_nonneg en) e2
      · have e1 : ¬ sub t i (i + b.length) = b := fun h => e (decide_eq_true (by rw [cs, h]))
        refine ⟨⟨_, _, _, _, _, _, rfl⟩, smT, next ?_⟩
        unfold tryK
        rw [if_neg e1]
    · rintro σ H3 ⟨⟨y3, y4, y5, y6, y7, y8, rfl⟩, sm, no⟩
      exact (q H3 sm).1 (brk_never name_no64 no)
end
end K07

namespace K07
open PySem PySem.Spec PyProof.Rows L2 Pg
theorem join_glue (ys : List Str) : Txt.join "" ys = glue ys := by
  apply cd_inj
  have h1 : cd (Txt.join "" ys) = TL.joinL (cd "") (ys.map cd) := by
    rw [TL.join_eq]
    exact TL.tl_join "" ys
  have e0 : cd ("" : Str) = [] := by decide +kernel
  rw [h1, e0]
  have h2 : ∀ l : List Str, TL.joinL [] (l.map cd) = cd (glue l) := by
    intro l
    induction l with
    | nil => rfl
    | cons x r ih =>
      cases r with
      | nil =>
        show cd x = cd (x ++ ⟨#[]⟩)
        rw [cd_app]
        simp
      | cons y r =>
        show cd x ++ ([] ++ TL.joinL [] ((y :: r).map cd)) = cd (x ++ glue (y :: r))
        rw [ih, cd_app, List.nil_append]
  exact h2 ys
theorem textOf_len {s : Seg} (h : s.2.length ≤ 1000) : (textOf s).length ≤ 1003 := by
  unfold textOf
  split
  · omega
  · split
    · rw [len_app, len_app]
      have a : ("<" : Str).length = 1 := rfl
      have b : (">" : Str).length = 1 := rfl
      omega
    · split
      · rw [len_app, len_app]
        have a : ("<@" : Str).length = 2 := rfl
        have b : (">" : Str).length = 1 := rfl
        omega
      · rw [len_app, len_app]
        have a : ("[" : Str).length = 1 := rfl
        have b : ("]" : Str).length = 1 := rfl
        omega
theorem sum_le {ys : List Str} {n : Nat} (h : ∀ y ∈ ys, y.length ≤ n) : (ys.map (·.length)).sum ≤ ys.length * n := by
  induction ys with
  | nil => simp
  | cons y r ih =>
    rw [List.map_cons, List.sum_cons, List.length_cons]
    have h1 := h y List.mem_cons_self
    have h2 := ih fun z hz => h z (List.mem_cons_of_mem _ hz)
    have h3 : (r.length + 1) * n = r.length * n + n := by rw [Nat.add_mul, Nat.one_mul]
    omega
section
variable {P : Program} {w : World} {K : PySem.W.Frag} {mg : Str → Option Value} {base : Heap} {f sg : Addr} {fd : FuncData}
theorem ok_split (F : Fun K "split" "split" s_split f fd) (z : Z mg) (cplain : Cal P w K mg base "_plain" 1 ["characters"] spPlain) (ctext_of : Cal P w K mg base "_text_of" 1 ["segment"] (spTextOf K))
    (csegment_at : Cal P w K mg base "_segment_at" 2 ["name", "text", "at"] spSegAt) : FnOk P w K mg base CX0 3 f fd ["name", "text"] spSplit := by
  refine F.ok sc_split (fun vs H Q E h => ?_) (fun cdv A outer s H vs Q E hr h => ?_)
  · obtain ⟨nm, t, rfl, _⟩ := h
    rfl
  · obtain ⟨nm, t, rfl, few, q⟩ := h
    refine ⟨_, (pss_cons (ps_set (i := 2) sc_split.nd rfl (Or.inl rfl) (pe_lst pa_nil))
      (pss_cons (ps_set (i := 3) sc_split.nd rfl (Or.inl rfl) pe_int)
      (pss_cons (ps_set (i := 4) sc_split.nd rfl (Or.inl rfl) pe_int)
      (pss_cons (ps_while PassesOwn.never (pt_cmpR op_lt (pv 4) (pe_callB call_len_str (by rfl) z.len PySem.boot_len (pa_cons (pv 1) pa_nil)) (nomark _))
        (pss_cons (ps_set (i := 5) sc_split.nd rfl (Or.inl rfl) (pe_cal csegment_at (hr.mono (by decide)) (by rfl) (pa_cons (pv 0) (pa_cons (pv 1) (pa_cons (pv 4) pa_nil)))))
        (pss_one (ps_if (pt_cmpR op_isN (pv 5) pe_non (nomark _))
          (pss_one (ps_aug (i := 4) sc_split.nd rfl (Or.inl rfl) pe_int ip_add))
          (pss_cons (ps_expr (pe_bm PySem.F.plainAttrs_list PySem.F.slot_list_extend PySem.F.type_list_extend mt_extend (pv 2) (pa_cons (pe_cal cplain (hr.mono (by decide)) (by rfl) (pa_cons (pe_slice sl_str (pv 1) (po_some (pv 3)) (po_some (pv 4))) pa_nil)) pa_nil)))
          (pss_cons (ps_expr (pe_bm PySem.F.plainAttrs_list PySem.F.slot_list_append PySem.F.type_list_append mt_append (pv 2) (pa_cons (pv 5) pa_nil)))
          (pss_cons (ps_aug (i := 4) sc_split.nd rfl (Or.inl rfl) (pe_callB call_len_str (by rfl) z.len PySem.boot_len (pa_cons (pe_cal ctext_of (hr.mono (by decide)) (by rfl) (pa_cons (pv 5) pa_nil)) pa_nil)) ip_add)
          (pss_one (ps_set (i := 3) sc_split.nd rfl (Or.inl rfl) (pv 4))))))))))
      (pss_cons (ps_expr (pe_bm PySem.F.plainAttrs_list PySem.F.slot_list_extend PySem.F.type_list_extend mt_extend (pv 2) (pa_cons (pe_cal cplain (hr.mono (by decide)) (by rfl) (pa_cons (pe_slice sl_str (pv 1) (po_some (pv 3)) po_none) pa_nil)) pa_nil)))
      (pss_one (ps_ret (pv 2)))))))), ?_⟩
    refine ⟨Nat.zero_le _, fun S nS => ?_⟩
    have lenAll := segs_few nameB (aft nm) t t.length 0 0 rfl (Nat.zero_le _)
    -- while at < len(text)
    refine ⟨fun m σ H3 => ∃ (y5 : Option V) (done i : Nat) (pre : List Seg), σ = [some (.str nm), some (.str t), some (.ref S), some (.int (done : Nat)), some (.int (i : Nat)), y5] ∧ Same H H3 ∧ SegsAt H3 S pre ∧
      done ≤ i ∧ i + m = t.length ∧ pre ++ segs nameB (aft nm) t done i = segs nameB (aft nm) t 0 0, ⟨t.length, _, 0, 0, [], rfl, same_new nS, ⟨[], upd_same, .nil⟩, Nat.le_refl _, by omega, rfl⟩, ?_⟩
    rintro m σ H3 ⟨y5, done, i, pre, rfl, sm, sa, di, em, tot⟩
    refine ⟨_, rfl, _, rfl, t, rfl, sizeLine_big (by omega), _, _, rfl, rfl, _, rfl, ite2 (fun e => ?_) (fun e => ?_)⟩
    · have lt : i < t.length := by have := of_decide_eq_true e; omega
      refine ⟨fun σ H3 => ∃ m', m' < m ∧ ∃ (y5 : Option V) (done i : Nat) (pre : List Seg), σ = [some (.str nm), some (.str t), some (.ref S), some (.int (done : Nat)), some (.int (i : Nat)), y5] ∧ Same H H3 ∧ SegsAt H3 S pre ∧
        done ≤ i ∧ i + m' = t.length ∧ pre ++ segs nameB (aft nm) t done i = segs nameB (aft nm) t 0 0, fun σ' H' h => h, ?_⟩
      -- what begins here
      refine ⟨_, rfl, _, rfl, _, rfl, nm, t, i, rfl, lt, few, fun H4 s4 => ?_⟩
      constructor
      · intro bn
        refine ⟨_, rfl, rfl, _, rfl, iteT ?_⟩
        refine ⟨_, rfl, _, _, rfl, rfl, m - 1, by omega, _, done, i + 1, pre, rfl, sm.trans s4, sa.same s4, by omega, by omega, ?_⟩
        rw [← segs_none lt bn]
        exact tot
      · intro k x en bs p np hp
        obtain ⟨b1, b2, b3, b4, b5⟩ := brk_is bs
        refine ⟨_, rfl, rfl, _, rfl, iteF ?_⟩
        obtain ⟨ts, hS, pr⟩ := sa.same s4
        have neS : p ≠ S := ne_of hp hS (by intro z; cases z)
        -- the plain signs so far
        refine ⟨.ref S, rfl, .inl ⟨rfl, _, .inl (.inl hS)⟩, _, rfl, _, rfl, _, rfl, _, rfl, _, rfl, t, rfl, sizeLine_big (by omega), _, rfl, fun H5 pp s5 npp ⟨us, hpp, pr2⟩ => ?_⟩
        have hS5 := s5 _ _ hS
        have cs : cutS t (some ((done : Nat) : Int)) (some ((i : Nat) : Int)) = sub t done i := cut_sub t done i
        rw [cs] at pr2
        have pr5 : Paired (TupS H5) ts pre := Paired.mapP pr fun a g h => s5 _ _ h
        have hp5 := s5 _ _ hp
        have l1 := paired_len pr5
        have l2 := paired_len pr2
        have room : (pre ++ (Pg.plain (sub t done i) ++ ((k, x) :: segs nameB (aft nm) t en en))).length ≤ 2001 := by
          rw [← segs_some lt bs, tot]
          omega
        rw [List.length_append, List.length_append, List.length_cons] at room
        have both : Paired (TupS (upd H5 S (.lst (ts.map V.ref ++ us.map V.ref)))) (ts ++ us) (pre ++ Pg.plain (sub t done i)) := tups_upd hS5 (paired_app pr5 pr2)
        have hp6 : (upd H5 S (.lst (ts.map V.ref ++ us.map V.ref))) p = some (.tup [.str k, .str x]) := by rw [upd_ne neS]; exact hp5
        refine ⟨S, pp, _, _, rfl, rfl, hS5, hpp, sizeLine_big (by rw [List.length_map, List.length_map]; omega), ?_⟩
        -- the segment itself
        refine ⟨.ref S, rfl, .inl ⟨rfl, _, .inl (.inl upd_same)⟩, _, rfl, S, _, _, rfl, rfl, upd_same, small5 (by rw [List.length_append, List.length_map, List.length_map]; omega), ?_⟩
        have sa2 : SegsAt (upd (upd H5 S (.lst (ts.map V.ref ++ us.map V.ref))) S (.lst ((ts.map V.ref ++ us.map V.ref) ++ [.ref p]))) S ((pre ++ Pg.plain (sub t done i)) ++ [(k, x)]) := by
          have := SegsAt.push (p := S) (q := p) (s := (k, x)) (by rw [upd_same, List.map_append]) both hp6
          rw [List.map_append] at this
          exact this
        have hp7 : (upd (upd H5 S (.lst (ts.map V.ref ++ us.map V.ref))) S (.lst ((ts.map V.ref ++ us.map V.ref) ++ [.ref p]))) p = some (.tup [.str k, .str x]) := by rw [upd_ne neS]; exact hp6
        have smE : Same H (upd (upd H5 S (.lst (ts.map V.ref ++ us.map V.ref))) S (.lst ((ts.map V.ref ++ us.map V.ref) ++ [.ref p]))) := by
          intro o u e
          rw [upd_ne (ne_of_none e nS), upd_ne (ne_of_none e nS)]
          exact s5 _ _ (s4 _ _ (sm _ _ e))
        -- behind it
        have tl : (textOf (k, x)).length = en - i := by rw [b3, sub_len b2]
        refine ⟨_, rfl, _, rfl, p, (k, x), rfl, .inl (.inl hp7), Or.inr b4, (by show x.length ≤ 1000; omega), _, rfl, sizeLine_big (by rw [tl]; omega), _, _, rfl, rfl, ?_⟩
        have ee : ((i : Nat) : Int) + (((textOf (k, x)).length : Nat) : Int) = ((en : Nat) : Int) := by rw [tl]; omega
        refine ⟨_, rfl, t.length - en, by omega, some (.ref p), en, en, (pre ++ Pg.plain (sub t done i)) ++ [(k, x)], ?_, smE, sa2, Nat.le_refl _, by omega, ?_⟩
        · rw [← ee]
          rfl
        · rw [← tot, segs_some lt bs]
          simp only [List.append_assoc, List.singleton_append]
    · have fin : i = t.length := by
        by_cases h : i < t.length
        · exact absurd (decide_eq_true (by omega)) e
        · omega
      rw [segs_end (by omega)] at tot
      obtain ⟨ts, hS, pr⟩ := sa
      refine ⟨.ref S, rfl, .inl ⟨rfl, _, .inl (.inl hS)⟩, _, rfl, _, rfl, _, rfl, t, rfl, sizeLine_big (by omega), _, rfl, fun H5 pp s5 npp ⟨us, hpp, pr2⟩ => ?_⟩
      have hS5 := s5 _ _ hS
      have cs : cutS t (some ((done : Nat) : Int)) none = sub t done t.length := cut_from t done
      rw [cs] at pr2
      have pr5 : Paired (TupS H5) ts pre := Paired.mapP pr fun a g h => s5 _ _ h
      have l1 := paired_len pr5
      have l2 := paired_len pr2
      have room : (pre ++ Pg.plain (sub t done t.length)).length ≤ 2001 := by
        rw [tot]
        omega
      rw [List.length_append] at room
      refine ⟨S, pp, _, _, rfl, rfl, hS5, hpp, sizeLine_big (by rw [List.length_map, List.length_map]; omega), ?_⟩
      refine ⟨.ref S, rfl, q _ S ?_ nS ?_⟩
      · intro o u e
        rw [upd_ne (ne_of_none e nS)]
        exact s5 _ _ (sm _ _ e)
      · rw [← tot]
        exact ⟨ts ++ us, by rw [upd_same, List.map_append], tups_upd hS5 (paired_app pr5 pr2)⟩
end
end K07

namespace K07
open PySem PySem.Spec PyProof.Rows L2 Pg
def spBracket : Sp := fun vs H Q _ => ∃ (nm t : Str) (i : Nat), vs = [.str nm, .str t, .int (i : Nat)] ∧ i < t.length ∧ t.length ≤ 1000 ∧
  ∀ H', Same H H' → (brk nameB (aft nm) t i = none → Q .non H') ∧ ∀ k z e, brk nameB (aft nm) t i = some (k, z, e) → ∀ p, H p = none → H' p = some (.lst [.str k, .str z, .int (e : Nat)]) → Q (.ref p) H'
def spSplitL : Sp := fun vs H Q _ => ∃ nm t : Str, vs = [.str nm, .str t] ∧ t.length ≤ 1000 ∧ Codes t ∧ ∀ (H' : Hp) (p : Addr), Same H H' → H p = none → SegsAt H' p (segs nameB (aft nm) t 0 0) → Q (.ref p) H'
theorem sign_is {c d : Nat} : V.str ⟨#[c]⟩ = V.str ⟨#[d]⟩ ↔ c = d := by
  constructor
  · intro h
    have h2 := congrArg cd (V.str.inj h)
    simpa using h2
  · rintro rfl
    rfl
theorem s64 : ("@" : Str) = ⟨#[64]⟩ := by decide +kernel
section
variable {P : Program} {w : World} {K : PySem.W.Frag} {mg : Str → Option Value} {base : Heap} {f sg : Addr} {fd : FuncData}
theorem ok_law_bracket (F : Fun K "_law_bracket" "_law_bracket" s_law_bracket f fd) (z : Z mg) (claw_is_name : Cal P w K mg base "_law_is_name" 1 ["text"] spIsName) : FnOk P w K mg base CX0 2 f fd ["name", "text", "at"] spBracket := by
  refine F.ok sc_law_bracket (fun vs H Q E h => ?_) (fun cdv A outer s H vs Q E hr h => ?_)
  · obtain ⟨nm, t, i, rfl, _⟩ := h
    rfl
  · obtain ⟨nm, t, i, rfl, lt, few, q⟩ := h
    refine ⟨_, (C8.pss_cut (ps_if (pt_cmpR op_eq (pe_ix ix_str (pv 1) (pv 2) (fun _ _ => rfl)) pe_str (nomark _))
        (pss_cons (ps_set (i := 3) sc_law_bracket.nd rfl (Or.inl rfl) (pe_bm PySem.F.plainAttrs_str PySem.F.slot_str_find PySem.F.type_str_find mt_find3 (pv 1) (pa_cons pe_str (pa_cons (pv 2) pa_nil))))
        (pss_one (ps_if (PW.pt (pw_and (pt_cmpR op_gt (pv 3) pe_int (nomark _)) (pw_and1 (pt_val (pe_cal claw_is_name (hr.mono (by decide)) (by rfl) (pa_cons (pe_slice sl_str (pv 1) (po_some (pe_op op_add (pv 2) pe_int)) (po_some (pv 3))) pa_nil))))))
          (pss_one (ps_ret (pe_lst (pa_cons pe_str (pa_cons (pe_slice sl_str (pv 1) (po_some (pe_op op_add (pv 2) pe_int)) (po_some (pv 3))) (pa_cons (pe_op op_add (pv 3) pe_int) pa_nil))))))
          pss_nil)))
        pss_nil)
      (pss_cons (ps_if (pt_cmpR op_eq (pe_ix ix_str (pv 1) (pv 2) (fun _ _ => rfl)) pe_str (nomark _))
        (pss_cons (ps_set (i := 3) sc_law_bracket.nd rfl (Or.inl rfl) (pe_bm PySem.F.plainAttrs_str PySem.F.slot_str_find PySem.F.type_str_find mt_find3 (pv 1) (pa_cons pe_str (pa_cons (pv 2) pa_nil))))
        (pss_cons (ps_set (i := 4) sc_law_bracket.nd rfl (Or.inl rfl) (pe_callTy call_int1 (by rfl) z.int (by decide +kernel) (pa_cons (pe_cmpR op_eq (pe_slice sl_str (pv 1) (po_some (pe_op op_add (pv 2) pe_int)) (po_some (pe_op op_add (pv 2) pe_int))) pe_str (nomark _)) pa_nil)))
        (pss_cons (ps_set (i := 5) sc_law_bracket.nd rfl (Or.inl rfl) (pe_slice sl_str (pv 1) (po_some (pe_op op_add (pe_op op_add (pv 2) pe_int) (pv 4))) (po_some (pe_callB (call_max2 rfl) (by rfl) z.max (by decide +kernel) (pa_cons (pv 3) (pa_cons pe_int pa_nil))))))
        (pss_one (ps_if (PW.pt (pw_and (pt_cmpR op_gt (pv 3) pe_int (nomark _)) (pw_and (pt_val (pe_cal claw_is_name (hr.mono (by decide)) (by rfl) (pa_cons (pv 5) pa_nil))) (pw_and1 (pt_cmpR op_gt_str (pv 5) (pv 0) (nomark _))))))
          (pss_one (ps_ret (pe_lst (pa_cons (pe_ix ix_list (pe_lst (pa_cons pe_str (pa_cons pe_str pa_nil))) (pv 4) (fun _ _ => rfl)) (pa_cons (pv 5) (pa_cons (pe_op op_add (pv 3) pe_int) pa_nil))))))
          pss_nil)))))
        pss_nil)
      (pss_one (ps_ret pe_non)))), ?_⟩
    have lt' : i < (cd t).length := by rw [← cd_len]; exact lt
    obtain ⟨c, hc⟩ : ∃ c, (cd t)[i]? = some c := ⟨_, List.getElem?_eq_getElem lt'⟩
    have at_i : atI t.cps.toList ((i : Nat) : Int) = some c := atI_nat hc
    have c1 : ((i : Nat) : Int) + 1 = ((i + 1 : Nat) : Int) := by omega
    refine ⟨fun σ' H' => (∃ y3 : Option V, σ' = [some (.str nm), some (.str t), some (.int (i : Nat)), y3, none, none]) ∧ H' = H ∧ (c = 91 → brk nameB (aft nm) t i = none), ?_, ?_⟩
    · refine ⟨_, rfl, _, rfl, t, _, c, rfl, rfl, sizeLine_big (by omega), at_i, rfl, _, rfl, ite2 (fun e => ?_) (fun e => ?_)⟩
      · have e1 : c = 91 := by
          have := of_decide_eq_true e
          rw [s91] at this
          exact sign_is.mp this
        subst e1
        have st : closeAt t 93 i = closeAt t 93 (i + 1) := close_step hc (by decide)
        have fc := find_close t 93 i
        rw [st] at fc
        refine ⟨_, rfl, rfl, _, rfl, t, ⟨#[93]⟩, _, rfl, (by rw [s93]), ?_⟩
        generalize hfd : Txt.find3 t ⟨#[93]⟩ ((i : Nat) : Int) = fd at *
        cases hcl : closeAt t 93 (i + 1) with
        | none =>
          rw [hcl] at fc
          have fc : fd = -1 := fc
          subst fc
          refine ⟨_, rfl, _, _, rfl, rfl, _, rfl, ite2 (fun e => absurd e (by decide)) (fun _ => ⟨⟨_, rfl⟩, rfl, fun _ => ?_⟩)⟩
          unfold brk
          rw [if_pos hc, hcl]
        | some en =>
          rw [hcl] at fc
          have fc : fd = (en : Int) := fc
          subst fc
          obtain ⟨cl1, cl2, _⟩ := close_is hcl
          have cs : cutS t (some (((i : Nat) : Int) + 1)) (some ((en : Nat) : Int)) = sub t (i + 1) en := by rw [c1]; exact cut_sub t (i + 1) en
          have il : (sub t (i + 1) en).length ≤ 1000 := by rw [sub_len (by omega)]; omega
          refine ⟨_, rfl, _, _, rfl, rfl, _, rfl, ite2 (fun _ => ?_) (fun e => absurd (decide_eq_true (by omega)) e)⟩
          refine ⟨_, rfl, _, rfl, _, _, rfl, rfl, _, rfl, _, rfl, _, rfl, t, rfl, sizeLine_big (by omega), _, rfl, (by rw [cs]; exact il), _, rfl, ite2 (fun e => ?_) (fun e => ?_)⟩
          · rw [cs] at e
            refine ⟨_, rfl, _, rfl, _, _, rfl, rfl, _, rfl, _, rfl, _, rfl, t, rfl, sizeLine_big (by omega), _, rfl, _, _, rfl, rfl, (by show 3 ≤ sizeLine; decide), fun p np => ?_⟩
            have bs : brk nameB (aft nm) t i = some (("link" : Str), sub t (i + 1) en, en + 1) := by
              unfold brk
              rw [if_pos hc, hcl]
              exact if_pos e
            refine (q _ (same_new np)).2 _ _ _ bs p np ?_
            rw [upd_same, cs]
            rfl
          · rw [cs] at e
            refine ⟨⟨_, rfl⟩, rfl, fun _ => ?_⟩
            unfold brk
            rw [if_pos hc, hcl]
            exact if_neg e
      · have e1 : ¬ c = 91 := fun h => e (decide_eq_true (by rw [h, s91]))
        exact ⟨⟨_, rfl⟩, rfl, fun h => absurd h e1⟩
    · rintro σ H' ⟨⟨y3, rfl⟩, rfl, b91⟩
      refine ⟨_, rfl, _, rfl, t, _, c, rfl, rfl, sizeLine_big (by omega), at_i, rfl, _, rfl, ite2 (fun e => ?_) (fun e => ?_)⟩
      · have e1 : c = 60 := by
          have := of_decide_eq_true e
          rw [s60] at this
          exact sign_is.mp this
        subst e1
        have n91 : ¬ (cd t)[i]? = some 91 := by rw [hc]; simp
        have st : closeAt t 62 i = closeAt t 62 (i + 1) := close_step hc (by decide)
        have fc := find_close t 62 i
        rw [st] at fc
        refine ⟨_, rfl, rfl, _, rfl, t, ⟨#[62]⟩, _, rfl, (by rw [s62]), ?_⟩
        generalize hfd : Txt.find3 t ⟨#[62]⟩ ((i : Nat) : Int) = fd at *
        have cs1 : cutS t (some (((i : Nat) : Int) + 1)) (some (((i : Nat) : Int) + 2)) = sub t (i + 1) (i + 2) := by
          rw [c1, show ((i : Nat) : Int) + 2 = ((i + 2 : Nat) : Int) by omega]
          exact cut_sub t (i + 1) (i + 2)
        refine ⟨_, rfl, _, rfl, _, _, rfl, rfl, _, rfl, _, rfl, _, _, rfl, rfl, _, rfl, t, rfl, sizeLine_big (by omega), rfl, .inr ⟨_, rfl, ?_⟩⟩
        have is64 : decide (V.str (cutS t (some (((i : Nat) : Int) + 1)) (some (((i : Nat) : Int) + 2))) = V.str "@") = decide ((cd t)[i + 1]? = some 64) := by
          rw [cs1, s64]
          by_cases h : (cd t)[i + 1]? = some 64
          · rw [decide_eq_true h, decide_eq_true (by rw [sub_one h])]
          · rw [decide_eq_false h, decide_eq_false fun e => h ((sub_is1 t (i + 1) 64).mp (V.str.inj e))]
        rw [is64]
        have bk : brk nameB (aft nm) t i = match closeAt t 62 (i + 1) with
            | some e =>
              if (cd t)[i + 1]? = some 64 then (if (nameB (sub t (i + 2) e) && aft nm (sub t (i + 2) e)) = true then some ("indirect", sub t (i + 2) e, e + 1) else none)
              else (if (nameB (sub t (i + 1) e) && aft nm (sub t (i + 1) e)) = true then some ("include", sub t (i + 1) e, e + 1) else none)
            | none => none := by
          unfold brk
          rw [if_neg n91, if_pos hc]
          all_goals rfl
        cases hcl : closeAt t 62 (i + 1) with
        | none =>
          rw [hcl] at fc bk
          have fc : fd = -1 := fc
          subst fc
          refine ⟨_, rfl, _, rfl, _, _, rfl, rfl, _, rfl, _, _, rfl, rfl, _, rfl, _, rfl, _, _, rfl, _, rfl, t, rfl, sizeLine_big (by omega), ?_⟩
          refine ⟨_, rfl, _, _, rfl, rfl, _, rfl, ite2 (fun e => absurd e (by decide)) (fun _ => ?_)⟩
          exact (q H' (Same.refl H')).1 bk
        | some en =>
          rw [hcl] at fc bk
          have fc : fd = (en : Int) := fc
          subst fc
          obtain ⟨cl1, cl2, cl3, _⟩ := close_is hcl
          have mx : (if (0 : Int) > ((en : Nat) : Int) then (0 : Int) else ((en : Nat) : Int)) = ((en : Nat) : Int) := if_neg (by omega)
          have pos : decide ((0 : Int) < ((en : Nat) : Int)) = true := decide_eq_true (by omega)
          by_cases h3 : (cd t)[i + 1]? = some 64
          · have bk := bk.trans (if_pos h3)
            have g1 : i + 2 ≤ en := by
              by_cases e : en = i + 1
              · subst e
                rw [h3] at cl3
                cases cl3
              · omega
            have skip : (if decide ((cd t)[i + 1]? = some 64) = true then (1 : Int) else 0) = 1 := if_pos (decide_eq_true h3)
            have il : (sub t (i + 2) en).length ≤ 1000 := by rw [sub_len (by omega)]; omega
            have cs : cutS t (some (((i : Nat) : Int) + 1 + (if decide ((cd t)[i + 1]? = some 64) = true then 1 else 0))) (some (if (0 : Int) > ((en : Nat) : Int) then (0 : Int) else ((en : Nat) : Int))) = sub t (i + 2) en := by
              rw [mx, skip, show ((i : Nat) : Int) + 1 + 1 = ((i + 2 : Nat) : Int) by omega]
              exact cut_sub t (i + 2) en
            refine ⟨_, rfl, _, rfl, _, _, rfl, rfl, _, rfl, _, _, rfl, rfl, _, rfl, _, rfl, _, _, rfl, _, rfl, t, rfl, sizeLine_big (by omega), ?_⟩
            refine ⟨_, rfl, _, _, rfl, rfl, _, rfl, ite2 (fun _ => ?_) (fun e => absurd pos e)⟩
            refine ⟨_, rfl, _, rfl, (by rw [cs]; exact il), _, rfl, ite2 (fun e => ?_) (fun e => ?_)⟩
            · rw [cs] at e
              refine ⟨_, rfl, _, rfl, _, _, rfl, rfl, _, rfl, ite2 (fun e2 => ?_) (fun e2 => ?_)⟩
              · rw [cs] at e2
                have e2 : aft nm (sub t (i + 2) en) = true := e2
                have bs : brk nameB (aft nm) t i = some (("indirect" : Str), sub t (i + 2) en, en + 1) := bk.trans (if_pos (by rw [e, e2]; rfl))
                refine ⟨(by show 2 ≤ sizeLine; decide), fun p0 np0 => ?_⟩
                refine ⟨_, rfl, p0, _, _, .str "indirect", rfl, rfl, .inl (.inl upd_same), (by rw [skip]; rfl), ?_⟩
                refine ⟨_, rfl, _, rfl, _, _, rfl, rfl, (by show 3 ≤ sizeLine; decide), fun p np => ?_⟩
                refine (q _ ((same_new np0).trans (same_new np))).2 _ _ _ bs p ((same_new np0).free np) ?_
                rw [upd_same, cs]
                rfl
              · rw [cs] at e2
                have e2 : ¬ aft nm (sub t (i + 2) en) = true := e2
                exact (q H' (Same.refl H')).1 (bk.trans (if_neg fun h => e2 (Bool.and_eq_true_iff.mp h).2))
            · rw [cs] at e
              exact (q H' (Same.refl H')).1 (bk.trans (if_neg fun h => e (Bool.and_eq_true_iff.mp h).1))
          · have bk := bk.trans (if_neg h3)
            have skip : (if decide ((cd t)[i + 1]? = some 64) = true then (1 : Int) else 0) = 0 := if_neg (by rw [decide_eq_false h3]; decide)
            have il : (sub t (i + 1) en).length ≤ 1000 := by rw [sub_len (by omega)]; omega
            have cs : cutS t (some (((i : Nat) : Int) + 1 + (if decide ((cd t)[i + 1]? = some 64) = true then 1 else 0))) (some (if (0 : Int) > ((en : Nat) : Int) then (0 : Int) else ((en : Nat) : Int))) = sub t (i + 1) en := by
              rw [mx, skip, show ((i : Nat) : Int) + 1 + 0 = ((i + 1 : Nat) : Int) by omega]
              exact cut_sub t (i + 1) en
            refine ⟨_, rfl, _, rfl, _, _, rfl, rfl, _, rfl, _, _, rfl, rfl, _, rfl, _, rfl, _, _, rfl, _, rfl, t, rfl, sizeLine_big (by omega), ?_⟩
            refine ⟨_, rfl, _, _, rfl, rfl, _, rfl, ite2 (fun _ => ?_) (fun e => absurd pos e)⟩
            refine ⟨_, rfl, _, rfl, (by rw [cs]; exact il), _, rfl, ite2 (fun e => ?_) (fun e => ?_)⟩
            · rw [cs] at e
              refine ⟨_, rfl, _, rfl, _, _, rfl, rfl, _, rfl, ite2 (fun e2 => ?_) (fun e2 => ?_)⟩
              · rw [cs] at e2
                have e2 : aft nm (sub t (i + 1) en) = true := e2
                have bs : brk nameB (aft nm) t i = some (("include" : Str), sub t (i + 1) en, en + 1) := bk.trans (if_pos (by rw [e, e2]; rfl))
                refine ⟨(by show 2 ≤ sizeLine; decide), fun p0 np0 => ?_⟩
                refine ⟨_, rfl, p0, _, _, .str "include", rfl, rfl, .inl (.inl upd_same), (by rw [skip]; rfl), ?_⟩
                refine ⟨_, rfl, _, rfl, _, _, rfl, rfl, (by show 3 ≤ sizeLine; decide), fun p np => ?_⟩
                refine (q _ ((same_new np0).trans (same_new np))).2 _ _ _ bs p ((same_new np0).free np) ?_
                rw [upd_same, cs]
                rfl
              · rw [cs] at e2
                have e2 : ¬ aft nm (sub t (i + 1) en) = true := e2
                exact (q H' (Same.refl H')).1 (bk.trans (if_neg fun h => e2 (Bool.and_eq_true_iff.mp h).2))
            · rw [cs] at e
              exact (q H' (Same.refl H')).1 (bk.trans (if_neg fun h => e (Bool.and_eq_true_iff.mp h).1))
      · have e1 : ¬ c = 60 := fun h => e (decide_eq_true (by rw [h, s60]))
        refine (q H' (Same.refl H')).1 ?_
        by_cases h : c = 91
        · exact b91 h
        · unfold brk
          rw [hc, if_neg (by simpa using h), if_neg (by simpa using e1)]
end
end K07

namespace K07
open PySem PySem.Spec PyProof.Rows L2 Pg
theorem plain_self (t : Str) (i : Nat) : Pg.plain (sub t i i) = [] := by
  unfold Pg.plain
  rw [sub_self, if_pos rfl]
theorem plain_some {z : Str} (h : ¬ z = ⟨#[]⟩) : Pg.plain z = [((("text" : Str), z) : Seg)] := by
  unfold Pg.plain
  rw [if_neg h]
theorem sub_ne {t : Str} {a b : Nat} (h : a < b) (hb : b ≤ t.length) : ¬ sub t a b = ⟨#[]⟩ := by
  intro e
  have h1 := sub_len (t := t) (a := a) hb
  rw [e] at h1
  have h2 : (⟨#[]⟩ : Str).length = 0 := rfl
  omega
theorem sub_grow {t : Str} {a i c : Nat} (h : a ≤ i) (hc : (cd t)[i]? = some c) : sub t a i ++ ⟨#[c]⟩ = sub t a (i + 1) := by
  rw [← sub_one hc, sub_join h (by omega)]
/-- a segment as data -/
def segD (s : Seg) : PyData := .tuple [.str s.1, .str s.2]
theorem SegsAt.dp {K : PySem.W.Frag} {H : Hp} {p : Addr} {l : List Seg} (x : SegsAt H p l) : Dp K H (.ref p) (.list (l.map segD)) := by
  obtain ⟨ts, e, r⟩ := x
  refine .lst (.inl (.inl e)) ?_
  clear e
  induction r with
  | nil => exact .nil
  | cons h _ ih => exact .cons (.tup (.inl (.inl h)) (.cons (.str _) (.cons (.str _) .nil))) ih
theorem eqv_nil (l : List Seg) : PyData.eqv (.list (l.map segD)) (.list []) = l.isEmpty := by
  cases l with
  | nil => rfl
  | cons s r => rfl
theorem lay_segs {t : Str} (ht : Codes t) : ∀ l : List Seg, (∀ s ∈ l, Fine t s) → PyData.canLayAll0 (l.map segD) = true ∧ PyData.depthAll (l.map segD) ≤ 2
  | [], _ => ⟨rfl, by decide⟩
  | s :: r, h => by
    obtain ⟨h1, h2⟩ := lay_segs ht r fun x hx => h x (List.mem_cons_of_mem _ hx)
    obtain ⟨k1, _, k3⟩ := h s List.mem_cons_self
    have c1 := (kind_codes k1).ok
    have c2 := Codes.ok (z := s.2) fun c hc => ht c (k3 c hc)
    rw [List.map_cons]
    constructor
    · simp only [PyData.canLayAll0, segD, PyData.canLay0, h1, c1, c2, Bool.and_true]
    · simp only [PyData.depthAll, segD, PyData.depth]
      omega
theorem shaped_segs {t : Str} (ht : Codes t) {l : List Seg} (h : ∀ s ∈ l, Fine t s) : SeqAt.shaped (.list (l.map segD)) = true := by
  obtain ⟨h1, h2⟩ := lay_segs ht l h
  unfold SeqAt.shaped
  simp only [PyData.canLay0, h1, PyData.depth, Bool.true_and]
  exact decide_eq_true (by omega)
theorem paired_snoc {α β : Type} {F : α → β → Prop} : ∀ {a : List α} {b : List β} {y : β}, Paired F a (b ++ [y]) → ∃ a' x, a = a' ++ [x] ∧ Paired F a' b ∧ F x y
  | _, [], y, .cons r .nil => ⟨[], _, rfl, .nil, r⟩
  | _, z :: b, y, .cons r t => by
    obtain ⟨a', x, rfl, p, f⟩ := paired_snoc (b := b) t
    exact ⟨_ :: a', x, rfl, .cons r p, f⟩
theorem ixN_last (n : Nat) : ixN (n + 1) (-1) = some n := by
  unfold ixN
  rw [if_neg (by decide), if_pos (by omega)]
  congr 1
  omega
section
variable {P : Program} {w : World} {K : PySem.W.Frag} {mg : Str → Option Value} {base : Heap} {f sg : Addr} {fd : FuncData}
theorem ok_law_split (F : Fun K "_law_split" "_law_split" s_law_split f fd) (z : Z mg) (claw_bracket : Cal P w K mg base "_law_bracket" 2 ["name", "text", "at"] spBracket) : FnOk P w K mg base CX0 3 f fd ["name", "text"] spSplitL := by
  refine F.ok sc_law_split (fun vs H Q E h => ?_) (fun cdv A outer s H vs Q E hr h => ?_)
  · obtain ⟨nm, t, rfl, _⟩ := h
    rfl
  · obtain ⟨nm, t, rfl, few, codes, q⟩ := h
    refine ⟨_, (pss_cons (ps_set (i := 2) sc_law_split.nd rfl (Or.inl rfl) (pe_lst pa_nil))
      (pss_cons (ps_set (i := 3) sc_law_split.nd rfl (Or.inl rfl) pe_int)
      (pss_cons (ps_while PassesOwn.never (pt_cmpR op_lt (pv 3) (pe_callB call_len_str (by rfl) z.len PySem.boot_len (pa_cons (pv 1) pa_nil)) (nomark _))
        (pss_cons (ps_set (i := 4) sc_law_split.nd rfl (Or.inl rfl) (pe_cal claw_bracket (hr.mono (by decide)) (by rfl) (pa_cons (pv 0) (pa_cons (pv 1) (pa_cons (pv 3) pa_nil)))))
        (pss_one (ps_if (pt_cmpR op_notN (pv 4) pe_non (nomark _))
          (pss_cons (ps_expr (pe_bm PySem.F.plainAttrs_list PySem.F.slot_list_append PySem.F.type_list_append mt_append (pv 2) (pa_cons (pe_tup (pa_cons (pe_ix ix_list (pv 4) pe_int (fun _ _ => rfl)) (pa_cons (pe_ix ix_list (pv 4) pe_int (fun _ _ => rfl)) pa_nil))) pa_nil)))
          (pss_one (ps_set (i := 3) sc_law_split.nd rfl (Or.inl rfl) (pe_ix ix_list (pv 4) pe_int (fun _ _ => rfl)))))
          (C8.pss_cut (ps_if (PW.pt (pw_or (pt_cmpR (op_eqD hr.units) (pv 2) (pe_lst pa_nil) (nomark _)) (pw_or1 (pt_cmpR op_ne (pe_ix ix_tup (pe_ix ix_list (pv 2) (pe_un un_neg pe_int) (fun _ _ => rfl)) pe_int (fun _ _ => rfl)) pe_str (nomark _)))))
            (pss_one (ps_expr (pe_bm PySem.F.plainAttrs_list PySem.F.slot_list_append PySem.F.type_list_append mt_append (pv 2) (pa_cons (pe_tup (pa_cons pe_str (pa_cons pe_str pa_nil))) pa_nil))))
            pss_nil)
          (pss_cons (ps_asg (pe_tup (pa_cons pe_str (pa_cons (pe_op op_add_str (pe_ix ix_tup (pe_ix ix_list (pv 2) (pe_un un_neg pe_int) (fun _ _ => rfl)) pe_int (fun _ _ => rfl)) (pe_ix ix_str (pv 1) (pv 3) (fun _ _ => rfl))) pa_nil))) (pg_sub (pv 2) (pe_un un_neg pe_int) set_list))
          (pss_one (ps_set (i := 3) sc_law_split.nd rfl (Or.inl rfl) (pe_op op_add (pv 3) pe_int)))))))))
      (pss_one (ps_ret (pv 2)))))), ?_⟩
    refine ⟨Nat.zero_le _, fun S nS => ?_⟩
    have lenAll := segs_few nameB (aft nm) t t.length 0 0 rfl (Nat.zero_le _)
    refine ⟨fun m σ H3 => ∃ (y4 : Option V) (done i : Nat) (pre : List Seg), σ = [some (.str nm), some (.str t), some (.ref S), some (.int (i : Nat)), y4] ∧ Same H H3 ∧ SegsAt H3 S (pre ++ Pg.plain (sub t done i)) ∧
      done ≤ i ∧ i + m = t.length ∧ pre ++ segs nameB (aft nm) t done i = segs nameB (aft nm) t 0 0 ∧ (∀ s, pre.getLast? = some s → s.1 ≠ "text"), ⟨t.length, _, 0, 0, [], rfl, same_new nS, ⟨[], upd_same, by rw [plain_self]; exact .nil⟩, Nat.le_refl _, by omega, rfl, by intro s h; cases h⟩, ?_⟩
    rintro m σ H3 ⟨y4, done, i, pre, rfl, sm, sa, di, em, tot, last⟩
    refine ⟨_, rfl, _, rfl, t, rfl, sizeLine_big (by omega), _, _, rfl, rfl, _, rfl, ite2 (fun e => ?_) (fun e => ?_)⟩
    · have lt : i < t.length := by have := of_decide_eq_true e; omega
      obtain ⟨c, hc⟩ : ∃ c, (cd t)[i]? = some c := ⟨_, List.getElem?_eq_getElem (by rw [← cd_len]; exact lt)⟩
      refine ⟨fun σ H3 => ∃ m', m' < m ∧ ∃ (y4 : Option V) (done i : Nat) (pre : List Seg), σ = [some (.str nm), some (.str t), some (.ref S), some (.int (i : Nat)), y4] ∧ Same H H3 ∧ SegsAt H3 S (pre ++ Pg.plain (sub t done i)) ∧
        done ≤ i ∧ i + m' = t.length ∧ pre ++ segs nameB (aft nm) t done i = segs nameB (aft nm) t 0 0 ∧ (∀ s, pre.getLast? = some s → s.1 ≠ "text"), fun σ' H' h => h, ?_⟩
      -- what begins here
      refine ⟨_, rfl, _, rfl, _, rfl, nm, t, i, rfl, lt, few, fun H4 s4 => ?_⟩
      obtain ⟨ts, hS, pr⟩ := sa.same s4
      have lts := paired_len pr
      have smS : ∀ {H5 : Hp} {o : HO}, Same H H5 → Same H (upd H5 S o) := fun {H5 o} h b u e => by
        rw [upd_ne (ne_of_none e nS)]
        exact h _ _ e
      constructor
      · intro bn
        have sn := segs_none (done := done) lt bn
        have room : (pre ++ Pg.plain (sub t done i)).length ≤ 2002 := by
          have h1 := congrArg List.length tot
          rw [List.length_append] at h1
          have h2 : (Pg.plain (sub t done i)).length ≤ 1 := by unfold Pg.plain; split <;> simp
          rw [List.length_append]
          omega
        refine ⟨_, rfl, rfl, _, rfl, iteF ?_⟩
        -- perhaps an empty text
        refine ⟨fun σ' H' => σ' = [some (.str nm), some (.str t), some (.ref S), some (.int (i : Nat)), some .non] ∧ Same H H' ∧ SegsAt H' S (pre ++ [((("text" : Str), sub t done i) : Seg)]), ?_, ?_⟩
        · skip
          have shp : SeqAt.shaped (.list ((pre ++ Pg.plain (sub t done i)).map segD)) = true := by
            apply shaped_segs codes
            intro x hx
            rcases List.mem_append.mp hx with hx | hx
            · exact segs_fine nameB (aft nm) t _ 0 0 rfl (Nat.le_refl _) (Nat.zero_le _) x (by rw [← tot]; exact List.mem_append_left _ hx)
            · exact plain_fine (by omega) x hx
          have dp4 : Dp K H4 (.ref S) (.list ((pre ++ Pg.plain (sub t done i)).map segD)) := SegsAt.dp ⟨ts, hS, pr⟩
          refine ⟨_, rfl, Nat.zero_le _, fun E nE => ?_⟩
          have sm5 : Same H (upd H4 E (.lst [])) := (sm.trans s4).trans (same_new nE)
          have hS5 := same_new (o := .lst []) nE _ _ hS
          have dp5 : Dp K (upd H4 E (.lst [])) (.ref S) (.list ((pre ++ Pg.plain (sub t done i)).map segD)) := SegsAt.dp ⟨ts, hS5, Paired.mapP pr fun a g h => same_new nE _ _ h⟩
          have pr5 : Paired (TupS (upd H4 E (.lst []))) ts (pre ++ Pg.plain (sub t done i)) := Paired.mapP pr fun a g h => same_new nE _ _ h
          generalize hH5 : upd H4 E (.lst []) = H5 at *
          refine ⟨_, .list [], dp5, .lst (.inl (.inl (by rw [← hH5, upd_same]))) .nil, shp, by decide, _, rfl, ?_⟩
          rw [eqv_nil]
          by_cases hd : done = i
          · subst hd
            rw [plain_self, List.append_nil] at *
            rcases List.eq_nil_or_concat pre with hpre | ⟨pre', sl, hpre⟩
            · rw [show pre.isEmpty = true by rw [hpre]; rfl]
              refine iteT ?_
              refine iteT ?_
              refine ⟨.ref S, rfl, .inl ⟨rfl, _, .inl (.inl hS5)⟩, (by show 2 ≤ sizeLine; decide), fun u nu => ?_⟩
              have hS6 := same_new (o := .tup [.str "text", .str ""]) nu _ _ hS5
              have pr6 : Paired (TupS (upd H5 u (.tup [.str "text", .str ""]))) ts pre := Paired.mapP pr5 fun a g h => same_new nu _ _ h
              refine ⟨S, _, _, rfl, rfl, hS6, small5 (by rw [List.length_map]; omega), rfl, smS (sm5.trans (same_new nu)), ?_⟩
              rw [sub_self, ← s0]
              exact SegsAt.push (s := (("text" : Str), ("" : Str))) hS6 pr6 upd_same
            · have pr5' := pr5
              rw [hpre, List.concat_eq_append] at pr5'
              obtain ⟨ts', u0, hts, pr', tu⟩ := paired_snoc pr5'
              have nt := last sl (by rw [hpre, List.concat_eq_append, List.getLast?_concat])
              rw [show pre.isEmpty = false by rw [hpre, List.concat_eq_append]; simp]
              refine iteF ?_
              refine ⟨_, rfl, 1, rfl, S, _, _, .ref u0, rfl, rfl, .inl (.inl hS5), (by rw [hts, List.map_append]; exact atI_last _ _), u0, _, _, .str sl.1, rfl, rfl, .inl (.inl tu), atI_nat (j := 0) rfl, rfl, _, rfl, ?_⟩
              rw [show (!decide (V.str sl.1 = V.str "text")) = true by rw [decide_eq_false fun e => nt (V.str.inj e)]; rfl]
              refine iteT ?_
              refine ⟨.ref S, rfl, .inl ⟨rfl, _, .inl (.inl hS5)⟩, (by show 2 ≤ sizeLine; decide), fun u nu => ?_⟩
              have hS6 := same_new (o := .tup [.str "text", .str ""]) nu _ _ hS5
              have pr6 : Paired (TupS (upd H5 u (.tup [.str "text", .str ""]))) ts pre := Paired.mapP pr5 fun a g h => same_new nu _ _ h
              refine ⟨S, _, _, rfl, rfl, hS6, small5 (by rw [List.length_map]; omega), rfl, smS (sm5.trans (same_new nu)), ?_⟩
              rw [sub_self, ← s0]
              exact SegsAt.push (s := (("text" : Str), ("" : Str))) hS6 pr6 upd_same
          · have lt2 : done < i := by omega
            rw [plain_some (sub_ne lt2 (by omega))] at *
            obtain ⟨ts', u0, rfl, pr', tu⟩ := paired_snoc pr5
            rw [show (pre ++ [((("text" : Str), sub t done i) : Seg)]).isEmpty = false by simp]
            refine iteF ?_
            refine ⟨_, rfl, 1, rfl, S, _, _, .ref u0, rfl, rfl, .inl (.inl hS5), (by rw [List.map_append]; exact atI_last _ _), u0, _, _, .str "text", rfl, rfl, .inl (.inl tu), atI_nat (j := 0) rfl, rfl, _, rfl, ?_⟩
            rw [show (!decide (V.str "text" = V.str "text")) = false by rw [decide_eq_true rfl]; rfl]
            refine iteF ⟨rfl, sm5, _, hS5, pr5⟩
        · rintro σ H5 ⟨rfl, s5, ts5, hS5, pr5⟩
          obtain ⟨ts', u, rfl, pr', tu⟩ := paired_snoc pr5
          have hl := atI_last (ts'.map V.ref) (V.ref u)
          rw [List.map_append] at hS5
          have at_i : atI t.cps.toList ((i : Nat) : Int) = some c := atI_nat hc
          have sl2 : (sub t done i).length ≤ 1000 := by rw [sub_len (by omega)]; omega
          refine ⟨.ref S, rfl, 1, rfl, S, _, _, .ref u, rfl, rfl, .inl (.inl hS5), hl, u, _, _, .str (sub t done i), rfl, rfl, .inl (.inl tu), atI_nat (j := 1) rfl, _, rfl, _, rfl, t, _, c, rfl, rfl, sizeLine_big (by omega), at_i, _, _, rfl, rfl,
            sizeLine_big (by show (sub t done i).length + 1 ≤ _; omega), (by show 2 ≤ sizeLine; decide), fun v nv => ?_⟩
          have hS6 := same_new (o := .tup [.str "text", .str (sub t done i ++ ⟨#[c]⟩)]) nv _ _ hS5
          have pr6 : Paired (TupS (upd H5 v (.tup [.str "text", .str (sub t done i ++ ⟨#[c]⟩)]))) ts' pre := Paired.mapP pr' fun a g h => same_new nv _ _ h
          refine ⟨.ref S, rfl, 1, rfl, S, _, _, ts'.length, rfl, rfl, hS6, (by rw [List.length_append, List.length_map]; exact ixN_last _), ?_⟩
          have setl : (ts'.map V.ref ++ [u].map V.ref).set ts'.length (.ref v) = ts'.map V.ref ++ [.ref v] := by
            rw [List.set_append_right _ _ (by rw [List.length_map]; exact Nat.le_refl _), List.length_map, Nat.sub_self]
            rfl
          rw [show (List.map V.ref ts' ++ List.map V.ref [u]).set ts'.length (.ref v) = ts'.map V.ref ++ [.ref v] from setl]
          have c1 : ((i : Nat) : Int) + 1 = ((i + 1 : Nat) : Int) := by omega
          refine ⟨_, rfl, _, _, rfl, rfl, m - 1, by omega, some .non, done, i + 1, pre, by rw [← c1]; rfl, smS (s5.trans (same_new nv)), ?_, by omega, by omega, by rw [← sn]; exact tot, last⟩
          rw [plain_some (sub_ne (by omega) (by omega)), ← sub_grow di hc]
          refine ⟨ts' ++ [v], by rw [upd_same, List.map_append]; rfl, tups_upd hS6 (paired_app pr6 (.cons ?_ .nil))⟩
          exact upd_same
      · intro k x en bs p np hp
        obtain ⟨b1, b2, b3, b4, b5⟩ := brk_is bs
        refine ⟨_, rfl, rfl, _, rfl, iteT ?_⟩
        have neS : p ≠ S := by
          obtain ⟨_, h0, _⟩ := sa
          exact (ne_of_none h0 np).symm
        have ss := segs_some (done := done) lt bs
        have room : (pre ++ Pg.plain (sub t done i)).length ≤ 2001 := by
          have h1 := congrArg List.length tot
          rw [ss, ← List.append_assoc, List.length_append] at h1
          omega
        -- it is noted; on behind it
        refine ⟨.ref S, rfl, .inl ⟨rfl, _, .inl (.inl hS)⟩, _, rfl, p, _, _, .str k, rfl, rfl, .inl (.inl hp), atI_nat (j := 0) rfl, _, rfl, p, _, _, .str x, rfl, rfl, .inl (.inl hp), atI_nat (j := 1) rfl, (by show 2 ≤ sizeLine; decide), fun u nu => ?_⟩
        have hS6 := same_new (o := .tup [.str k, .str x]) nu _ _ hS
        have hp6 := same_new (o := .tup [.str k, .str x]) nu _ _ hp
        have pr6 : Paired (TupS (upd H4 u (.tup [.str k, .str x]))) ts (pre ++ Pg.plain (sub t done i)) := Paired.mapP pr fun a g h => same_new nu _ _ h
        refine ⟨S, _, _, rfl, rfl, hS6, small5 (by rw [List.length_map]; omega), ?_⟩
        have hp7 : (upd (upd H4 u (.tup [.str k, .str x])) S (.lst (ts.map V.ref ++ [.ref u]))) p = some (.lst [.str k, .str x, .int (en : Nat)]) := by rw [upd_ne neS]; exact hp6
        refine ⟨_, rfl, p, _, _, .int (en : Nat), rfl, rfl, .inl (.inl hp7), atI_nat (j := 2) rfl, t.length - en, by omega, some (.ref p), en, en, (pre ++ Pg.plain (sub t done i)) ++ [(k, x)], rfl, smS ((sm.trans s4).trans (same_new nu)), ?_, Nat.le_refl _, by omega, ?_, ?_⟩
        · rw [plain_self, List.append_nil]
          exact SegsAt.push (s := (k, x)) hS6 pr6 upd_same
        · rw [← tot, ss]
          simp only [List.append_assoc, List.singleton_append]
        · intro s hs
          rw [List.getLast?_concat] at hs
          rw [← Option.some.inj hs]
          exact kinds_no k b4
    · have fin : i = t.length := by
        by_cases h : i < t.length
        · exact absurd (decide_eq_true (by omega)) e
        · omega
      rw [segs_end (by omega)] at tot
      subst fin
      refine ⟨.ref S, rfl, q _ S sm nS ?_⟩
      rw [← tot]
      exact sa
end
end K07

namespace K07
open PySem PySem.Spec PyProof.Rows L2 Pg
theorem Drew.put {b L : Addr} {H H' : Hp} {o : HO} (hb : Box H b) (x : Drew b H H') (hL : H L = none) : Drew b H (upd H' L o) := by
  have dg : ∀ d, BoxAt H b d → BoxAt (upd H' L o) b d := fun d e => (x.dig d e).upd (e.ne hL).1 (e.ne hL).2
  obtain ⟨d, e⟩ := hb
  exact ⟨⟨d, dg d e⟩, dg, fun p u n h => by rw [upd_ne (ne_of_none h hL)]; exact x.keep p u n h⟩
theorem Drew.fresh {b t : Addr} {H H' : Hp} (x : Drew b H H') (nt : H' t = none) : H t = none := by
  cases e : H t with
  | none => rfl
  | some o =>
    by_cases tb : t = b
    · obtain ⟨d, ⟨ds, n, h1, _⟩⟩ := x.box
      rw [tb, h1] at nt
      cases nt
    · rw [x.keep t o tb e] at nt
      cases nt
theorem inV_strs (x : Str) (ys : List Str) : inV (.str x) (ys.map V.str) = decide (x ∈ ys) := by
  unfold inV
  rw [List.any_map, Bool.eq_iff_iff, List.any_eq_true, decide_eq_true_eq]
  constructor
  · rintro ⟨y, hy, e⟩
    have e' : (y == x) = true := e
    rw [← eq_of_beq e']
    exact hy
  · intro h
    exact ⟨x, h, (beq_self_eq_true x : (x == x) = true)⟩
theorem flat_strs (ys : List Str) : (ys.map V.str).all flatV = true := by
  rw [List.all_map, List.all_eq_true]
  intro x _
  rfl
/-- drawn pages: names, each once -/
def spPagesL : Sp := fun vs H Q _ => ∃ b : Addr, vs = [.ref b] ∧ Box H b ∧ ∀ (t : Addr) (xs : List Str) (H' : Hp), H t = none → H' t = some (.tup (xs.map V.str)) → xs.Nodup → (∀ x ∈ xs, x ∈ names8) → xs.length ≤ 6 → Drew b H H' → Q (.ref t) H'
/-- a dict of texts -/
def DictS (H : Hp) (a : Addr) (kvs : List (Str × Str)) : Prop := H a = some (.dK (enc V.str kvs))
/-- drawn sources -/
def spSources : Sp := fun vs H Q _ => ∃ (b : Addr) (most : Nat), vs = [.ref b, .int (most : Nat)] ∧ most ≤ 100 ∧ Box H b ∧ ∀ (d : Addr) (kvs : List (Str × Str)) (H' : Hp), H d = none → DictS H' d kvs → (kvs.map (·.1)).Nodup → (∀ p ∈ kvs, p.1 ∈ names8 ∧ p.2.length ≤ 60 ∧ Safe p.2) → Drew b H H' → Q (.ref d) H'
section
variable {P : Program} {w : World} {K : PySem.W.Frag} {mg : Str → Option Value} {base : Heap} {f : Addr} {fd : FuncData}
theorem ok_law_pages (F : Fun K "_law_pages" "_law_pages" s_law_pages f fd) (z : Z mg) (claw_draw : Cal P w K mg base "_law_draw" 1 ["box", "many"] spDraw) (claw_name : Cal P w K mg base "_law_name" 2 ["box"] spName) :
    FnOk P w K mg base CX0 3 f fd ["box"] spPagesL := by
  refine F.ok sc_law_pages (fun vs H Q E h => ?_) (fun cdv A outer s H vs Q E hr h => ?_)
  · obtain ⟨b, rfl, _⟩ := h
    rfl
  · obtain ⟨b, rfl, hb, q⟩ := h
    refine ⟨_, (pss_cons (ps_set (i := 1) sc_law_pages.nd rfl (Or.inl rfl) (pe_lst pa_nil))
      (pss_cons (ps_for PassesOwn.never rfl (pi_range1 (by rfl) z.range (pa_cons (pe_cal claw_draw (hr.mono (by decide)) (by rfl) (pa_cons (pv 0) (pa_cons pe_int pa_nil))) pa_nil)) (pg_name (i := 2) sc_law_pages.nd rfl (Or.inl rfl))
        (pss_cons (ps_set (i := 3) sc_law_pages.nd rfl (Or.inl rfl) (pe_cal claw_name (hr.mono (by decide)) (by rfl) (pa_cons (pv 0) pa_nil)))
        (pss_one (ps_if (pt_cmpR op_notIn_seq (pv 3) (pv 1) (by rfl))
          (pss_one (ps_expr (pe_bm PySem.F.plainAttrs_list PySem.F.slot_list_append PySem.F.type_list_append mt_append (pv 1) (pa_cons (pv 3) pa_nil))))
          pss_nil))))
      (pss_one (ps_ret (pe_callTy call_tuple_of (by rfl) z.tuple (by decide +kernel) (pa_cons (pv 1) pa_nil)))))), ?_⟩
    refine ⟨Nat.zero_le _, fun L nL => ?_⟩
    have d0 : Drew b H (upd H L (.lst [])) := (Drew.of hb (Same.refl _)).put hb nL
    refine ⟨.ref b, rfl, b, 7, rfl, by decide, d0.box, fun n H1 n0 n1 d1 => ⟨n, rfl, by omega, by omega, ?_⟩⟩
    refine for_range (lo := 0) (n := n.toNat) (fun j σ H3 => ∃ (y2 y3 : Option V) (xs : List Str), σ = [some (.ref b), some (.ref L), y2, y3] ∧ H3 L = some (.lst (xs.map V.str)) ∧ xs.Nodup ∧ (∀ x ∈ xs, x ∈ names8) ∧ xs.length ≤ j ∧ Drew b H H3)
      ⟨_, _, [], rfl, d1.keep L _ (hb.ne nL) upd_same, List.nodup_nil, (by intro x hx; cases hx), Nat.le_refl _, d0.trans d1⟩ ?_ ?_
    · rintro j σ H3 hj ⟨y2, y3, xs, rfl, hL, nd, all, le, d3⟩
      refine ⟨.ref b, rfl, b, rfl, d3.box, fun nm H4 hn d4 => ?_⟩
      have hL4 := d4.keep L _ (hb.ne nL) hL
      refine ⟨_, rfl, .ref L, rfl, L, _, rfl, .inl (.inl (.inl hL4)), rfl, flat_strs xs, _, rfl, ?_⟩
      rw [inV_strs]
      refine ite2 (fun e => ?_) (fun e => ?_)
      · have nin : nm ∉ xs := by simpa using e
        refine ⟨.ref L, rfl, .inl ⟨rfl, _, .inl (.inl hL4)⟩, _, rfl, L, _, _, rfl, rfl, hL4, by rw [List.length_map]; exact small5 (by omega), ?_⟩
        refine ⟨_, _, xs ++ [nm], rfl, by rw [upd_same, List.map_append]; rfl, ?_, ?_, by rw [List.length_append]; show xs.length + 1 ≤ _; omega, (d3.trans d4).put hb nL⟩
        · rw [List.nodup_append]
          exact ⟨nd, by simp, fun a ha c hc => by rw [List.mem_singleton.mp hc]; rintro rfl; exact nin ha⟩
        · intro x hx
          rcases List.mem_append.mp hx with h | h
          · exact all x h
          · rw [List.mem_singleton.mp h]; exact hn
      · exact ⟨_, _, xs, rfl, hL4, nd, all, by omega, d3.trans d4⟩
    · rintro σ H3 ⟨y2, y3, xs, rfl, hL, nd, all, le, d3⟩
      refine ⟨.ref L, rfl, L, _, rfl, .inl ⟨.inl (.inl hL), fun t nt => ?_⟩⟩
      have nt0 := d3.fresh nt
      exact q t xs _ nt0 upd_same nd all (by omega) (d3.put hb nt0)
theorem ok_law_sources (F : Fun K "_law_sources" "_law_sources" s_law_sources f fd) (z : Z mg) (claw_draw : Cal P w K mg base "_law_draw" 1 ["box", "many"] spDraw) (claw_name : Cal P w K mg base "_law_name" 2 ["box"] spName)
    (claw_text : Cal P w K mg base "_law_text" 3 ["box", "most"] spText) : FnOk P w K mg base CX0 4 f fd ["box", "most"] spSources := by
  refine F.ok sc_law_sources (fun vs H Q E h => ?_) (fun cdv A outer s H vs Q E hr h => ?_)
  · obtain ⟨b, most, rfl, _⟩ := h
    rfl
  · obtain ⟨b, most, rfl, hm, hb, q⟩ := h
    refine ⟨_, (pss_cons (ps_set (i := 2) sc_law_sources.nd rfl (Or.inl rfl) pe_dnewK)
      (pss_cons (ps_for PassesOwn.never rfl (pi_range1 (by rfl) z.range (pa_cons (pe_cal claw_draw (hr.mono (by decide)) (by rfl) (pa_cons (pv 0) (pa_cons (pe_op op_add (pv 1) pe_int) pa_nil))) pa_nil)) (pg_name (i := 3) sc_law_sources.nd rfl (Or.inl rfl))
        (pss_cons (ps_set (i := 4) sc_law_sources.nd rfl (Or.inl rfl) (pe_cal claw_name (hr.mono (by decide)) (by rfl) (pa_cons (pv 0) pa_nil)))
        (pss_cons (ps_dput (hu_of hr) (pv 2) (pv 4) (pe_cal claw_text (hr.mono (by decide)) (by rfl) (pa_cons (pv 0) (pa_cons pe_int pa_nil))) rfl)
        (pss_one (ps_if (pt_cmpR op_eq (pe_cal claw_draw (hr.mono (by decide)) (by rfl) (pa_cons (pv 0) (pa_cons pe_int pa_nil))) pe_int (nomark _))
          (pss_one (ps_dput (hu_of hr) (pv 2) (pv 4) (pe_cal claw_name (hr.mono (by decide)) (by rfl) (pa_cons (pv 0) pa_nil)) rfl))
          pss_nil)))))
      (pss_one (ps_ret (pv 2))))), ?_⟩
    intro D nD
    have d0 : Drew b H (upd H D (.dK [])) := (Drew.of hb (Same.refl _)).put hb nD
    refine ⟨.ref b, rfl, _, rfl, _, _, rfl, rfl, b, _, rfl, (by show (0 : Int) < (most : Nat) + 1; omega), d0.box, fun n H1 n0 n1 d1 => ⟨n, rfl, by omega, by omega, ?_⟩⟩
    refine for_range (lo := 0) (n := n.toNat) (fun j σ H3 => ∃ (y3 y4 : Option V) (kvs : List (Str × Str)), σ = [some (.ref b), some (.int (most : Nat)), some (.ref D), y3, y4] ∧ DictS H3 D kvs ∧ (kvs.map (·.1)).Nodup ∧ (∀ p ∈ kvs, p.1 ∈ names8 ∧ p.2.length ≤ 60 ∧ Safe p.2) ∧ Drew b H H3)
      ⟨_, _, [], rfl, d1.keep D _ (hb.ne nD) upd_same, List.nodup_nil, (by intro x hx; cases hx), d0.trans d1⟩ ?_ ?_
    · rintro j σ H3 hj ⟨y3, y4, kvs, rfl, hD, nd, all, d3⟩
      refine ⟨.ref b, rfl, b, rfl, d3.box, fun nm H4 hn d4 => ?_⟩
      have hD4 := d4.keep D _ (hb.ne nD) hD
      -- a text for the name
      refine ⟨.ref b, rfl, b, 5, rfl, by decide, d4.box, fun t H5 few safe d5 => ?_⟩
      have hD5 := d5.keep D _ (hb.ne nD) hD4
      have fewk : kvs.length ≤ 8 := by
        have := few_of nd (ys := names8) fun x hx => by
          obtain ⟨p, hp, rfl⟩ := List.mem_map.mp hx
          exact (all p hp).1
        rw [List.length_map] at this
        exact this
      refine ⟨.ref D, rfl, _, rfl, D, _, rfl, DPut.k (k := Sum.inr nm) hD5 (by unfold enc; rw [List.length_map]; exact small5 (by omega)), ?_⟩
      rw [putK_enc]
      have d6 : Drew b H (upd H5 D (.dK (enc V.str (putS kvs nm t)))) := ((d3.trans d4).trans d5).put hb nD
      have nd6 := nodup_put nm t nd
      have all6 : ∀ p ∈ putS kvs nm t, p.1 ∈ names8 ∧ p.2.length ≤ 60 ∧ Safe p.2 := fun p hp => by
        rcases mem_put hp with h | h
        · rw [h]; exact ⟨hn, few, safe⟩
        · exact all p h
      refine ⟨.ref b, rfl, b, 4, rfl, by decide, d6.box, fun r H7 r0 r1 d7 => ⟨rfl, _, rfl, ite2 (fun _ => ?_) (fun _ => ?_)⟩⟩
      · refine ⟨.ref b, rfl, b, rfl, d7.box, fun nm2 H8 hn2 d8 => ?_⟩
        have hD8 : DictS H8 D (putS kvs nm t) := d8.keep D _ (hb.ne nD) (d7.keep D _ (hb.ne nD) upd_same)
        obtain ⟨l2, s2⟩ := names8_ok nm2 hn2
        refine ⟨.ref D, rfl, _, rfl, D, _, rfl, DPut.k (k := Sum.inr nm) hD8 (by unfold enc; rw [List.length_map]; have := len_put kvs nm t; exact small5 (by omega)), ?_⟩
        refine ⟨_, _, putS (putS kvs nm t) nm nm2, rfl, ?_, nodup_put _ _ nd6, fun p hp => ?_, ((d6.trans d7).trans d8).put hb nD⟩
        · show upd H8 D _ D = _
          rw [upd_same, putK_enc]
        · rcases mem_put hp with h | h
          · rw [h]; exact ⟨hn, by show nm2.length ≤ 60; omega, safe_of s2⟩
          · exact all6 p h
      · exact ⟨_, _, putS kvs nm t, rfl, d7.keep D _ (hb.ne nD) upd_same, nd6, all6, d6.trans d7⟩
    · rintro σ H3 ⟨y3, y4, kvs, rfl, hD, nd, all, d3⟩
      exact ⟨.ref D, rfl, q D kvs _ nD hD nd all d3⟩
end
end K07

namespace K07
open PySem PySem.Spec PyProof.Rows L2 Pg
/-- what a name renders to -/
inductive Res where
  | text (c : Str) (ls : List Str)
  | failed (n : Str)
  | long (n : Str)
def nothing : Res := .text "?" []
def ResAt (K : PySem.W.Frag) (H : Hp) (t : Addr) : Res → Prop
  | .text c ls => ∃ l : Addr, SqT K H t [.str "text", .str c, .ref l] ∧ SqT K H l (ls.map V.str)
  | .failed n => SqT K H t [.str "failed", .str n]
  | .long n => SqT K H t [.str "long", .str n]
theorem ResAt.same {K : PySem.W.Frag} {H H' : Hp} {t : Addr} {r : Res} (s : Same H H') (h : ResAt K H t r) : ResAt K H' t r := by
  cases r with
  | text c ls =>
    obtain ⟨l, h1, h2⟩ := h
    exact ⟨l, seqT_same s h1, seqT_same s h2⟩
  | failed n => exact seqT_same (K := K) s h
  | long n => exact seqT_same (K := K) s h
theorem seqT_upd {K : PySem.W.Frag} {H : Hp} {a p : Addr} {xs ys : List V} {o : HO} (hp : H p = some (.lst ys)) (h : SqT K H a xs) : SqT K (upd H p o) a xs := by
  rcases h with (h | ⟨u, h⟩) | h
  · exact .inl (.inl (by rw [upd_ne (ne_of h hp (by intro z; cases z))]; exact h))
  · exact .inl (.inr ⟨u, by rw [upd_ne (ne_of h hp (by intro z; cases z))]; exact h⟩)
  · exact .inr h
theorem ResAt.upd {K : PySem.W.Frag} {H : Hp} {t p : Addr} {ys : List V} {o : HO} {r : Res} (hp : H p = some (.lst ys)) (h : ResAt K H t r) : ResAt K (upd H p o) t r := by
  cases r with
  | text c ls =>
    obtain ⟨l, h1, h2⟩ := h
    exact ⟨l, seqT_upd hp h1, seqT_upd hp h2⟩
  | failed n => exact seqT_upd (K := K) hp h
  | long n => exact seqT_upd (K := K) hp h
/-- small enough -/
def Res.small : Res → Prop
  | .text c ls => c.length ≤ 200 ∧ ls.length ≤ 2000 ∧ ∀ x ∈ ls, x.length ≤ 6
  | .failed n => n.length ≤ 6
  | .long n => n.length ≤ 6
/-- a dict of results, each at its place -/
def DictRes (K : PySem.W.Frag) (H : Hp) (D : Addr) (kvs : List (Str × (Addr × Res))) : Prop := H D = some (.dK (enc (fun p => V.ref p.1) kvs)) ∧ ∀ p ∈ kvs, ResAt K H p.2.1 p.2.2 ∧ p.2.2.small
theorem DictRes.same {K : PySem.W.Frag} {H H' : Hp} {D : Addr} {kvs : List (Str × (Addr × Res))} (s : Same H H') (h : DictRes K H D kvs) : DictRes K H' D kvs := ⟨s _ _ h.1, fun p hp => ⟨(h.2 p hp).1.same s, (h.2 p hp).2⟩⟩
def resOf (kvs : List (Str × (Addr × Res))) (nm : Str) : Res := match getS kvs nm with
  | some p => p.2
  | none => nothing
theorem resOf_small {K : PySem.W.Frag} {H : Hp} {D : Addr} {kvs : List (Str × (Addr × Res))} (h : DictRes K H D kvs) (nm : Str) : (resOf kvs nm).small := by
  unfold resOf
  cases e : getS kvs nm with
  | none => exact ⟨by decide +kernel, by decide, by intro x hx; cases hx⟩
  | some p => exact (h.2 _ (get_some e)).2
def DepAt (K : PySem.W.Frag) (H : Hp) (a : Addr) (d : Str × Res) : Prop := ∃ t : Addr, SqT K H a [.str d.1, .ref t] ∧ ResAt K H t d.2
def DepsAt (K : PySem.W.Frag) (H : Hp) (p : Addr) (l : List (Str × Res)) : Prop := ∃ ts : List Addr, H p = some (.lst (ts.map V.ref)) ∧ Paired (DepAt K H) ts l
theorem DepAt.same {K : PySem.W.Frag} {H H' : Hp} {a : Addr} {d : Str × Res} (s : Same H H') (h : DepAt K H a d) : DepAt K H' a d := let ⟨t, h1, h2⟩ := h; ⟨t, seqT_same s h1, h2.same s⟩
theorem DepsAt.same {K : PySem.W.Frag} {H H' : Hp} {p : Addr} {l : List (Str × Res)} (s : Same H H') (h : DepsAt K H p l) : DepsAt K H' p l := let ⟨ts, h1, h2⟩ := h; ⟨ts, s _ _ h1, Paired.mapP h2 fun _ _ x => x.same s⟩
theorem DepsAt.push {K : PySem.W.Frag} {H : Hp} {p a : Addr} {l : List (Str × Res)} {d : Str × Res} {ts : List Addr} (e : H p = some (.lst (ts.map V.ref))) (r : Paired (DepAt K H) ts l) (h : DepAt K H a d) :
    DepsAt K (upd H p (.lst (ts.map V.ref ++ [.ref a]))) p (l ++ [d]) :=
  ⟨ts ++ [a], by rw [upd_same, List.map_append]; rfl, Paired.mapP (paired_app r (.cons h .nil)) fun _ _ x => let ⟨t, h1, h2⟩ := x; ⟨t, seqT_upd e h1, h2.upd e⟩⟩
/-- the name to which an indirect inclusion leads -/
def leads (nm : Str) : Res → Option Str
  | .text c _ => if nameB c = true ∧ aft nm c = true then some c else none
  | _ => none
def dep1 (R : Str → Res) (nm : Str) (s : Seg) : List (Str × Res) :=
  (if s.1 = "include" then [(s.2, R s.2)] else []) ++ (if s.1 = "indirect" then (s.2, R s.2) :: (match leads nm (R s.2) with | some c => [(c, R c)] | none => []) else [])
def depsN (R : Str → Res) (nm : Str) (l : List Seg) : List (Str × Res) := l.flatMap (dep1 R nm)
theorem dep1_len (R : Str → Res) (nm : Str) (s : Seg) : (dep1 R nm s).length ≤ 3 := by
  unfold dep1
  rw [List.length_append]
  have a : (if s.1 = "include" then [(s.2, R s.2)] else []).length ≤ 1 := by split <;> simp
  have b : (if s.1 = "indirect" then (s.2, R s.2) :: (match leads nm (R s.2) with | some c => [(c, R c)] | none => []) else []).length ≤ 2 := by
    split
    · cases leads nm (R s.2) <;> simp
    · simp
  omega
theorem depsN_len (R : Str → Res) (nm : Str) : ∀ l : List Seg, (depsN R nm l).length ≤ 3 * l.length
  | [] => by simp [depsN]
  | s :: r => by
    have ih := depsN_len R nm r
    have h := dep1_len R nm s
    unfold depsN at ih ⊢
    rw [List.flatMap_cons, List.length_append, List.length_cons]
    omega
theorem depsN_succ {R : Str → Res} {nm : Str} {l : List Seg} {j : Nat} {s : Seg} (h : l[j]? = some s) : depsN R nm (l.take (j + 1)) = depsN R nm (l.take j) ++ dep1 R nm s := by
  unfold depsN
  rw [List.take_add_one, h, List.flatMap_append]
  simp
def spResultOf (K : PySem.W.Frag) : Sp := fun vs H Q _ => ∃ (D : Addr) (kvs : List (Str × (Addr × Res))) (nm : Str), vs = [.ref D, .str nm] ∧ DictRes K H D kvs ∧ ∀ (H' : Hp) (t : Addr), Same H H' → ResAt K H' t (resOf kvs nm) → Q (.ref t) H'
def spDepsL (K : PySem.W.Frag) : Sp := fun vs H Q _ => ∃ (D : Addr) (kvs : List (Str × (Addr × Res))) (nm t : Str), vs = [.ref D, .str nm, .str t] ∧ DictRes K H D kvs ∧ t.length ≤ 1000 ∧ Codes t ∧
  ∀ (H' : Hp) (p : Addr), Same H H' → H p = none → DepsAt K H' p (depsN (resOf kvs) nm (segs nameB (aft nm) t 0 0)) → Q (.ref p) H'
section
variable {P : Program} {w : World} {K : PySem.W.Frag} {mg : Str → Option Value} {base : Heap} {f : Addr} {fd : FuncData}
end
end K07

namespace K07
open PySem PySem.Spec PyProof.Rows L2 Pg
def ress (ds : List (Str × Res)) : List Res := ds.map Prod.snd
def chars : Res → Str
  | .text c _ => c
  | _ => ⟨#[]⟩
def lks : Res → List Str
  | .text _ ls => ls
  | _ => []
/-- the results that a row of segments wants, all of them texts -/
inductive Fits (nm : Str) : List Seg → List Res → Prop where
  | nil : Fits nm [] []
  | text {s : Seg} {l : List Seg} {fs : List Res} (h : s.1 = "text") (r : Fits nm l fs) : Fits nm (s :: l) fs
  | link {s : Seg} {l : List Seg} {fs : List Res} (h : s.1 = "link") (r : Fits nm l fs) : Fits nm (s :: l) fs
  | inc {s : Seg} {l : List Seg} {fs : List Res} {c : Str} {ls : List Str} (h : s.1 = "include") (r : Fits nm l fs) : Fits nm (s :: l) (.text c ls :: fs)
  | ind0 {s : Seg} {l : List Seg} {fs : List Res} {c : Str} {ls : List Str} (h : s.1 = "indirect") (n : leads nm (.text c ls) = none) (r : Fits nm l fs) : Fits nm (s :: l) (.text c ls :: fs)
  | ind1 {s : Seg} {l : List Seg} {fs : List Res} {c x d : Str} {ls ms : List Str} (h : s.1 = "indirect") (n : leads nm (.text c ls) = some x) (r : Fits nm l fs) : Fits nm (s :: l) (.text c ls :: .text d ms :: fs)
/-- what the segments join to, what links they have -/
def joinN (nm : Str) : List Seg → List Res → Str × List Str
  | [], _ => (⟨#[]⟩, [])
  | s :: r, fs => if s.1 = "text" then (s.2 ++ (joinN nm r fs).1, (joinN nm r fs).2)
    else if s.1 = "link" then ((("[" ++ s.2) ++ "]") ++ (joinN nm r fs).1, s.2 :: (joinN nm r fs).2)
    else match fs with
      | [] => (⟨#[]⟩, [])
      | f :: fs => if s.1 = "indirect" then (match leads nm f with
          | some _ => (match fs with
            | [] => (⟨#[]⟩, [])
            | g :: fs => (chars g ++ (joinN nm r fs).1, lks g ++ (joinN nm r fs).2))
          | none => ("?" ++ (joinN nm r fs).1, (joinN nm r fs).2))
        else (chars f ++ (joinN nm r fs).1, lks f ++ (joinN nm r fs).2)
theorem join_ind {nm o : Str} {l : List Seg} {fs : List Res} {c : Str} {ls : List Str} : joinN nm ((("indirect" : Str), o) :: l) (.text c ls :: fs) = (match leads nm (.text c ls) with
    | some _ => (match fs with
      | [] => (⟨#[]⟩, [])
      | g :: fs => (chars g ++ (joinN nm l fs).1, lks g ++ (joinN nm l fs).2))
    | none => ("?" ++ (joinN nm l fs).1, (joinN nm l fs).2)) := rfl
theorem join_ind0 {nm o : Str} {l : List Seg} {fs : List Res} {c : Str} {ls : List Str} (n : leads nm (.text c ls) = none) : joinN nm ((("indirect" : Str), o) :: l) (.text c ls :: fs) = ("?" ++ (joinN nm l fs).1, (joinN nm l fs).2) := by
  rw [join_ind, n]
theorem join_ind1 {nm o x : Str} {l : List Seg} {fs : List Res} {c d : Str} {ls ms : List Str} (n : leads nm (.text c ls) = some x) : joinN nm ((("indirect" : Str), o) :: l) (.text c ls :: .text d ms :: fs) = (d ++ (joinN nm l fs).1, ms ++ (joinN nm l fs).2) := by
  rw [join_ind, n]
  rfl
def joinedN (nm : Str) (l : List Seg) (fs : List Res) : Res := if 200 < (joinN nm l fs).1.length then .long nm else .text (joinN nm l fs).1 (rise (joinN nm l fs).2)
def spJoined (K : PySem.W.Frag) : Sp := fun vs H Q _ => ∃ (nm t : Str) (F : Addr) (ds : List (Str × Res)), vs = [.str nm, .str t, .ref F] ∧ t.length ≤ 1000 ∧ Codes t ∧ DepsAt K H F ds ∧ Fits nm (segs nameB (aft nm) t 0 0) (ress ds) ∧ (∀ d ∈ ds, d.2.small) ∧
  ∀ (H' : Hp) (r : Addr), Same H H' → ResAt K H' r (joinedN nm (segs nameB (aft nm) t 0 0) (ress ds)) → Q (.ref r) H'
theorem sizeLine_huge {n : Nat} (h : n ≤ 10000000) : n ≤ sizeLine := Nat.le_trans h (by decide)
theorem nil_app (x : Str) : (⟨#[]⟩ : Str) ++ x = x := cd_inj (by rw [cd_app]; exact List.nil_append _)
theorem app_assoc (x y z : Str) : (x ++ y) ++ z = x ++ (y ++ z) := cd_inj (by rw [cd_app, cd_app, cd_app, cd_app, List.append_assoc])
section
variable {P : Program} {w : World} {K : PySem.W.Frag} {mg : Str → Option Value} {base : Heap} {f : Addr} {fd : FuncData}
theorem ok_law_joined (F : Fun K "_law_joined" "_law_joined" s_law_joined f fd) (z : Z mg) (claw_is_name : Cal P w K mg base "_law_is_name" 1 ["text"] spIsName)
    (claw_split : Cal P w K mg base "_law_split" 3 ["name", "text"] spSplitL) : FnOk P w K mg base CX0 4 f fd ["name", "text", "found"] (spJoined K) := by
  refine F.ok sc_law_joined (fun vs H Q E h => ?_) (fun cdv A outer s H vs Q E hr h => ?_)
  · obtain ⟨nm, t, G, ds, rfl, _⟩ := h
    rfl
  · obtain ⟨nm, t, G, ds, rfl, few, codes, ⟨gs, hG, pg⟩, fit, small, q⟩ := h
    refine ⟨_, (pss_cons (ps_set (i := 3) sc_law_joined.nd rfl (Or.inl rfl) pe_str)
      (pss_cons (ps_set (i := 4) sc_law_joined.nd rfl (Or.inl rfl) (pe_lst pa_nil))
      (pss_cons (ps_set (i := 5) sc_law_joined.nd rfl (Or.inl rfl) pe_int)
      (pss_cons (ps_for PassesOwn.never rfl (pi_list (pe_cal claw_split (hr.mono (by decide)) (by rfl) (pa_cons (pv 0) (pa_cons (pv 1) pa_nil)))) (pg_tup rfl (pgs_cons (pg_name (i := 6) sc_law_joined.nd rfl (Or.inl rfl)) (pgs_cons (pg_name (i := 7) sc_law_joined.nd rfl (Or.inl rfl)) pgs_nil)))
        (pss_one (ps_if (pt_cmpR op_eq (pv 6) pe_str (nomark _))
          (pss_one (ps_set (i := 3) sc_law_joined.nd rfl (Or.inl rfl) (pe_op op_add_str (pv 3) (pv 7))))
          (pss_one (ps_if (pt_cmpR op_eq (pv 6) pe_str (nomark _))
            (pss_cons (ps_set (i := 3) sc_law_joined.nd rfl (Or.inl rfl) (pe_op op_add_str (pe_op op_add_str (pe_op op_add_str (pv 3) pe_str) (pv 7)) pe_str))
            (pss_one (ps_expr (pe_bm PySem.F.plainAttrs_list PySem.F.slot_list_append PySem.F.type_list_append mt_append (pv 4) (pa_cons (pv 7) pa_nil)))))
            (pss_cons (ps_set (i := 8) sc_law_joined.nd rfl (Or.inl rfl) (pe_ix ix_tup (pe_ix ix_list (pv 2) (pv 5) (fun _ _ => rfl)) pe_int (fun _ _ => rfl)))
            (pss_cons (ps_set (i := 5) sc_law_joined.nd rfl (Or.inl rfl) (pe_op op_add (pv 5) pe_int))
            (pss_cons (ps_if (pt_cmpR op_eq (pv 6) pe_str (nomark _))
              (pss_one (ps_if (PW.pt (pw_and (pt_val (pe_cal claw_is_name (hr.mono (by decide)) (by rfl) (pa_cons (pe_ix ix_tup (pv 8) pe_int (fun _ _ => rfl)) pa_nil))) (pw_and1 (pt_cmpR op_gt_str (pe_ix ix_tup (pv 8) pe_int (fun _ _ => rfl)) (pv 0) (nomark _)))))
                (pss_cons (ps_set (i := 8) sc_law_joined.nd rfl (Or.inl rfl) (pe_ix ix_tup (pe_ix ix_list (pv 2) (pv 5) (fun _ _ => rfl)) pe_int (fun _ _ => rfl)))
                (pss_one (ps_set (i := 5) sc_law_joined.nd rfl (Or.inl rfl) (pe_op op_add (pv 5) pe_int))))
                (pss_one (ps_set (i := 8) sc_law_joined.nd rfl (Or.inl rfl) (pe_tup (pa_cons pe_str (pa_cons pe_str (pa_cons (pe_tup pa_nil) pa_nil))))))))
              pss_nil)
            (pss_cons (ps_set (i := 3) sc_law_joined.nd rfl (Or.inl rfl) (pe_op op_add_str (pv 3) (pe_ix ix_tup (pv 8) pe_int (fun _ _ => rfl))))
            (pss_one (ps_set (i := 4) sc_law_joined.nd rfl (Or.inl rfl) (pe_op op_cat (pv 4) (pe_callTy call_list_of (by rfl) z.list (by decide +kernel) (pa_cons (pe_ix ix_tup (pv 8) pe_int (fun _ _ => rfl)) pa_nil))))))))))))))
      (pss_cons (ps_set (i := 9) sc_law_joined.nd rfl (Or.inl rfl) (pe_lst pa_nil))
      (pss_cons (ps_for PassesOwn.never rfl (pi_list (pe_callB cr_sortedSA (by rfl) z.sorted (by decide +kernel) (pa_cons (pv 4) pa_nil))) (pg_name (i := 10) sc_law_joined.nd rfl (Or.inl rfl))
        (pss_one (ps_if (pt_cmpR op_notIn_seq (pv 10) (pv 9) (by rfl))
          (pss_one (ps_expr (pe_bm PySem.F.plainAttrs_list PySem.F.slot_list_append PySem.F.type_list_append mt_append (pv 9) (pa_cons (pv 10) pa_nil))))
          pss_nil)))
      (pss_cons (ps_if (pt_cmpR op_gt (pe_callB call_len_str (by rfl) z.len PySem.boot_len (pa_cons (pv 3) pa_nil)) pe_int (nomark _))
        (pss_one (ps_ret (pe_tup (pa_cons pe_str (pa_cons (pv 0) pa_nil)))))
        pss_nil)
      (pss_one (ps_ret (pe_tup (pa_cons pe_str (pa_cons (pv 3) (pa_cons (pe_callTy call_tuple_of (by rfl) z.tuple (by decide +kernel) (pa_cons (pv 9) pa_nil)) pa_nil))))))))))))), ?_⟩
    refine ⟨Nat.zero_le _, fun L nL => ?_⟩
    refine ⟨_, rfl, _, rfl, nm, t, rfl, few, codes, fun H1 S s1 nS sa => ?_⟩
    have fewS := segs_few nameB (aft nm) t t.length 0 0 rfl (Nat.zero_le _)
    have fineS := segs_fine nameB (aft nm) t t.length 0 0 rfl (Nat.le_refl _) (Nat.zero_le _)
    generalize segs nameB (aft nm) t 0 0 = l at *
    obtain ⟨ts, hS, pr⟩ := sa
    have lts := paired_len pr
    refine ⟨S, rfl, ⟨_, .inl (.inl hS)⟩, ?_⟩
    have s01 : Same H H1 := (same_new nL).trans s1
    have hL1 : H1 L = some (.lst []) := s1 _ _ upd_same
    refine for_list (K := K) (a := S) (xs := ts.map V.ref) (fun j σ H3 => ∃ (y6 y7 y8 y9 y10 : Option V) (parts : Str) (M : Addr) (links : List Str) (dn rest : List (Str × Res)),
        σ = [some (.str nm), some (.str t), some (.ref G), some (.str parts), some (.ref M), some (.int (dn.length : Nat)), y6, y7, y8, y9, y10] ∧ Same H H3 ∧ (∀ b o, b ≠ L → H1 b = some o → H3 b = some o) ∧
        ds = dn ++ rest ∧ Fits nm (l.drop j) (ress rest) ∧ H3 M = some (.lst (links.map V.str)) ∧ H M = none ∧ (H1 M = none ∨ M = L) ∧ parts.length ≤ 1300 * j ∧ links.length ≤ 2001 * j ∧
        joinN nm l (ress ds) = (parts ++ (joinN nm (l.drop j) (ress rest)).1, links ++ (joinN nm (l.drop j) (ress rest)).2))
      ⟨_, _, _, _, _, "", L, [], [], ds, rfl, s01, fun _ _ _ e => e, rfl, fit, hL1, nL, .inr rfl, by decide, Nat.le_refl _, ?_⟩ (fun j σ H3 _ ⟨_, _, _, _, _, _, _, _, _, _, _, _, kp, _⟩ => .inl (.inl (kp S _ (ne_of_none upd_same nS).symm hS))) ?_ ?_
    · show joinN nm l (ress ds) = (("" : Str) ++ (joinN nm l (ress ds)).1, [] ++ (joinN nm l (ress ds)).2)
      have e : ∀ x : Str, ("" : Str) ++ x = x := fun x => by rw [s0]; exact nil_app x
      rw [e, List.nil_append]
    · rintro j y σ H3 hy ⟨y6, y7, y8, y9, y10, parts, M, links, dn, rest, rfl, s3, kp, eds, fit3, hM, nM, M1, lp, ll, tot⟩
      obtain ⟨a, ha, rfl⟩ : ∃ a, ts[j]? = some a ∧ y = V.ref a := by
        rw [List.getElem?_map] at hy
        cases e : ts[j]? with
        | none => rw [e] at hy; cases hy
        | some a => rw [e] at hy; exact ⟨a, rfl, (Option.some.inj hy).symm⟩
      have hj : j < l.length := by
        rw [← lts]
        by_cases lt : j < ts.length
        · exact lt
        · rw [List.getElem?_eq_none (by omega)] at ha; cases ha
      have hs : l[j]? = some l[j] := List.getElem?_eq_getElem hj
      obtain ⟨a', ha', tu⟩ := paired_at pr hs
      obtain rfl : a = a' := Option.some.inj (ha.symm.trans ha')
      have aL : a ≠ L := ne_of tu hL1 (by intro z; cases z)
      have tu3 : H3 a = some (.tup [.str l[j].1, .str l[j].2]) := kp a _ aL tu
      have ed : l.drop j = l[j] :: l.drop (j + 1) := List.drop_eq_getElem_cons hj
      rw [ed] at fit3 tot
      obtain ⟨fk, fl, fc⟩ := fineS _ (List.getElem_mem hj)
      generalize l[j] = sg at *
      obtain ⟨k, o⟩ := sg
      have fl : o.length ≤ t.length := fl
      have jl : j ≤ 2001 := by omega
      refine ⟨a, _, rfl, .inl (.inl tu3), rfl, _, _, rfl, _, _, rfl, rfl, ?_⟩
      -- where an update at M leaves all
      have keepM : ∀ {H4 : Hp} {u : HO}, Same H H4 → Same H (upd H4 M u) := fun {H4 u} h b v e => by rw [upd_ne (ne_of_none e nM)]; exact h _ _ e
      have keepM1 : ∀ {H4 : Hp} {u : HO}, (∀ b o, b ≠ L → H1 b = some o → H4 b = some o) → ∀ b o, b ≠ L → H1 b = some o → upd H4 M u b = some o := fun {H4 u} h b v bl e => by
        have : b ≠ M := by
          rintro rfl
          rcases M1 with h1 | h1
          · rw [e] at h1; cases h1
          · exact bl h1
        rw [upd_ne this]
        exact h b v bl e
      generalize hrs : ress rest = rs at *
      cases fit3 with
      | text h r =>
        have h : k = "text" := h
        subst h
        refine ⟨_, rfl, rfl, _, rfl, ?_⟩
        rw [show decide (V.str "text" = V.str "text") = true from decide_eq_true rfl]
        refine iteT ?_
        refine ⟨_, rfl, _, rfl, _, _, rfl, rfl, sizeLine_huge (by omega), ?_⟩
        refine ⟨_, _, _, _, _, parts ++ o, M, links, dn, rest, rfl, s3, kp, eds, by rw [hrs]; exact r, hM, nM, M1, by rw [len_app]; omega, by omega, ?_⟩
        rw [hrs, tot]
        show (parts ++ (o ++ (joinN nm (l.drop (j + 1)) rs).1), links ++ (joinN nm (l.drop (j + 1)) rs).2) = _
        rw [app_assoc]
      | link h r =>
        have h : k = "link" := h
        subst h
        refine ⟨_, rfl, rfl, _, rfl, ?_⟩
        rw [show decide (V.str "link" = V.str "text") = false by decide +kernel]
        refine iteF ?_
        refine ⟨_, rfl, rfl, _, rfl, ?_⟩
        rw [show decide (V.str "link" = V.str "link") = true from decide_eq_true rfl]
        refine iteT ?_
        have o1 : ("[" : Str).length = 1 := rfl
        have o2 : ("]" : Str).length = 1 := rfl
        refine ⟨_, rfl, _, _, rfl, rfl, sizeLine_huge (by omega), _, rfl, _, _, rfl, rfl, sizeLine_huge (by rw [len_app]; omega), _, _, rfl, rfl, sizeLine_huge (by rw [len_app, len_app]; omega), ?_⟩
        refine ⟨.ref M, rfl, .inl ⟨rfl, _, .inl (.inl hM)⟩, _, rfl, M, _, _, rfl, rfl, hM, ?_, ?_⟩
        · rw [List.length_map]
          exact Nat.lt_of_le_of_lt (show links.length ≤ 5000000 by omega) (by decide)
        refine ⟨_, _, _, _, _, ((parts ++ "[") ++ o) ++ "]", M, links ++ [o], dn, rest, rfl, keepM s3, keepM1 kp, eds, by rw [hrs]; exact r, by rw [upd_same, List.map_append]; rfl, nM, M1, by rw [len_app, len_app, len_app]; omega, by rw [List.length_append]; show links.length + 1 ≤ _; omega, ?_⟩
        rw [hrs, tot]
        show (parts ++ ((("[" ++ o) ++ "]") ++ (joinN nm (l.drop (j + 1)) rs).1), links ++ (o :: (joinN nm (l.drop (j + 1)) rs).2)) = _
        rw [app_assoc, app_assoc, app_assoc, app_assoc, app_assoc, List.append_assoc]
        rfl
      | @inc _ _ fs c ls h r =>
        have h : k = "include" := h
        subst h
        refine ⟨_, rfl, rfl, _, rfl, ?_⟩
        rw [show decide (V.str "include" = V.str "text") = false by decide +kernel]
        refine iteF ?_
        refine ⟨_, rfl, rfl, _, rfl, ?_⟩
        rw [show decide (V.str "include" = V.str "link") = false by decide +kernel]
        refine iteF ?_
        -- the next of found
        obtain ⟨d, rest', rfl⟩ : ∃ d rest', rest = d :: rest' := by
          cases rest with
          | nil => cases hrs
          | cons d r => exact ⟨d, r, rfl⟩
        obtain ⟨hd, hrs'⟩ : d.2 = .text c ls ∧ ress rest' = fs := List.cons.inj hrs
        have hdat : ds[dn.length]? = some d := by rw [eds, List.getElem?_append_right (Nat.le_refl _), Nat.sub_self]; rfl
        obtain ⟨ga, hga, tr, hT, hR⟩ := paired_at pg hdat
        rw [hd] at hR
        obtain ⟨lk, hC, hl⟩ := hR
        have hsm : c.length ≤ 200 ∧ ls.length ≤ 2000 := by
          have := small d (List.mem_of_getElem? hdat)
          rw [hd] at this
          exact ⟨this.1, this.2.1⟩
        have hG3 := s3 _ _ hG
        have hT3 := seqT_same s3 hT
        have hC3 := seqT_same s3 hC
        have hl3 := seqT_same s3 hl
        refine ⟨.ref G, rfl, _, rfl, G, _, _, .ref ga, rfl, rfl, .inl (.inl hG3), atI_nat (by rw [List.getElem?_map, hga]; rfl), ga, _, _, .ref tr, rfl, rfl, hT3, atI_nat (j := 1) rfl, _, rfl, _, _, rfl, rfl, ?_⟩
        refine ⟨_, rfl, rfl, _, rfl, ?_⟩
        rw [show decide (V.str "include" = V.str "indirect") = false by decide +kernel]
        refine iteF ?_
        have s4 : Same H3 H3 := Same.refl _
        have hC4 := hC3
        have hl4 := hl3
        -- parts, links
        refine ⟨_, rfl, .ref tr, rfl, tr, _, _, .str c, rfl, rfl, hC4, atI_nat (j := 1) rfl, _, _, rfl, rfl, sizeLine_huge (by omega), ?_⟩
        refine ⟨.ref M, rfl, .ref tr, rfl, tr, _, _, .ref lk, rfl, rfl, hC4, atI_nat (j := 2) rfl, lk, _, rfl, .inr hl4, fun L2 n2 => ?_⟩
        have s5 : ∀ {u v : HO} {M2 : Addr}, upd H3 L2 u M2 = none → Same H3 (upd (upd H3 L2 u) M2 v) := fun {u v M2} m2 => s4.trans ((same_new n2).trans (same_new m2))
        have hM2 := same_new (o := .lst (ls.map V.str)) n2 _ _ (s4 _ _ hM)
        refine ⟨M, L2, _, _, rfl, rfl, hM2, upd_same, ?_, fun M2 m2 => ?_⟩
        · rw [List.length_map, List.length_map]; exact sizeLine_huge (by omega)
        have m0 : H M2 = none := by
          cases e : H M2 with
          | none => rfl
          | some v => rw [same_new n2 _ _ (s4 _ _ (s3 _ _ e))] at m2; cases m2
        have m1 : H1 M2 = none ∨ M2 = L := by
          by_cases e : M2 = L
          · exact .inr e
          · cases w : H1 M2 with
            | none => exact .inl rfl
            | some v => rw [same_new n2 _ _ (s4 _ _ (kp _ _ e w))] at m2; cases m2
        refine ⟨some (.str "include"), some (.str o), some (.ref tr), y9, y10, parts ++ c, M2, links ++ ls, dn ++ [d], rest', by rw [List.length_append]; rfl, fun b v e => s5 m2 _ _ (s3 _ _ e), fun b v bl e => s5 m2 _ _ (kp b v bl e), by rw [eds, List.append_assoc]; rfl, by rw [hrs']; exact r, by rw [upd_same, List.map_append], m0, m1, by rw [len_app]; omega, by rw [List.length_append]; omega, ?_⟩
        rw [hrs', tot]
        show (parts ++ (c ++ (joinN nm (l.drop (j + 1)) fs).1), links ++ (ls ++ (joinN nm (l.drop (j + 1)) fs).2)) = _
        rw [app_assoc, List.append_assoc]
      | @ind0 _ _ fs c ls h n r =>
        have h : k = "indirect" := h
        subst h
        refine ⟨_, rfl, rfl, _, rfl, ?_⟩
        rw [show decide (V.str "indirect" = V.str "text") = false by decide +kernel]
        refine iteF ?_
        refine ⟨_, rfl, rfl, _, rfl, ?_⟩
        rw [show decide (V.str "indirect" = V.str "link") = false by decide +kernel]
        refine iteF ?_
        -- the next of found
        obtain ⟨d, rest', rfl⟩ : ∃ d rest', rest = d :: rest' := by
          cases rest with
          | nil => cases hrs
          | cons d r => exact ⟨d, r, rfl⟩
        obtain ⟨hd, hrs'⟩ : d.2 = .text c ls ∧ ress rest' = fs := List.cons.inj hrs
        have hdat : ds[dn.length]? = some d := by rw [eds, List.getElem?_append_right (Nat.le_refl _), Nat.sub_self]; rfl
        obtain ⟨ga, hga, tr, hT, hR⟩ := paired_at pg hdat
        rw [hd] at hR
        obtain ⟨lk, hC, hl⟩ := hR
        have hsm : c.length ≤ 200 ∧ ls.length ≤ 2000 := by
          have := small d (List.mem_of_getElem? hdat)
          rw [hd] at this
          exact ⟨this.1, this.2.1⟩
        have hG3 := s3 _ _ hG
        have hT3 := seqT_same s3 hT
        have hC3 := seqT_same s3 hC
        have hl3 := seqT_same s3 hl
        refine ⟨.ref G, rfl, _, rfl, G, _, _, .ref ga, rfl, rfl, .inl (.inl hG3), atI_nat (by rw [List.getElem?_map, hga]; rfl), ga, _, _, .ref tr, rfl, rfl, hT3, atI_nat (j := 1) rfl, _, rfl, _, _, rfl, rfl, ?_⟩
        refine ⟨_, rfl, rfl, _, rfl, ?_⟩
        rw [show decide (V.str "indirect" = V.str "indirect") = true from decide_eq_true rfl]
        refine iteT ?_
        refine ⟨.ref tr, rfl, tr, _, _, .str c, rfl, rfl, hC3, atI_nat (j := 1) rfl, c, rfl, by omega, _, rfl, ite2 (fun en => ?_) (fun en => ?_)⟩
        · refine ⟨.ref tr, rfl, tr, _, _, .str c, rfl, rfl, hC3, atI_nat (j := 1) rfl, _, rfl, _, _, rfl, rfl, _, rfl, ite2 (fun ea => ?_) (fun ea => ?_)⟩
          · have ea : aft nm c = true := ea
            have : leads nm (.text c ls) = some c := if_pos ⟨en, ea⟩
            rw [this] at n
            cases n
          · skip
            refine ⟨Nat.zero_le _, fun ee ne => ⟨by show 3 ≤ sizeLine; decide, fun w nw => ?_⟩⟩
            have s4 : Same H3 (upd (upd H3 ee (.tup [])) w (.tup [.str "text", .str "?", .ref ee])) := (same_new ne).trans (same_new nw)
            have hC4 : SqT K (upd (upd H3 ee (.tup [])) w (.tup [.str "text", .str "?", .ref ee])) w [.str "text", .str "?", .ref ee] := .inl (.inl upd_same)
            have hl4 : SqT K (upd (upd H3 ee (.tup [])) w (.tup [.str "text", .str "?", .ref ee])) ee (([] : List Str).map V.str) := .inl (.inl (same_new nw _ _ upd_same))
            generalize upd (upd H3 ee (.tup [])) w (.tup [.str "text", .str "?", .ref ee]) = H4 at *
            have hsm : ("?" : Str).length ≤ 200 ∧ ([] : List Str).length ≤ 2000 := by decide
            -- parts, links
            refine ⟨_, rfl, .ref w, rfl, w, _, _, .str "?", rfl, rfl, hC4, atI_nat (j := 1) rfl, _, _, rfl, rfl, sizeLine_huge (by omega), ?_⟩
            refine ⟨.ref M, rfl, .ref w, rfl, w, _, _, .ref ee, rfl, rfl, hC4, atI_nat (j := 2) rfl, ee, _, rfl, .inr hl4, fun L2 n2 => ?_⟩
            have s5 : ∀ {u v : HO} {M2 : Addr}, upd H4 L2 u M2 = none → Same H3 (upd (upd H4 L2 u) M2 v) := fun {u v M2} m2 => s4.trans ((same_new n2).trans (same_new m2))
            have hM2 := same_new (o := .lst (([]:List Str).map V.str)) n2 _ _ (s4 _ _ hM)
            refine ⟨M, L2, _, _, rfl, rfl, hM2, upd_same, ?_, fun M2 m2 => ?_⟩
            · rw [List.length_map, List.length_map]; exact sizeLine_huge (by omega)
            have m0 : H M2 = none := by
              cases e : H M2 with
              | none => rfl
              | some v => rw [same_new n2 _ _ (s4 _ _ (s3 _ _ e))] at m2; cases m2
            have m1 : H1 M2 = none ∨ M2 = L := by
              by_cases e : M2 = L
              · exact .inr e
              · cases w : H1 M2 with
                | none => exact .inl rfl
                | some v => rw [same_new n2 _ _ (s4 _ _ (kp _ _ e w))] at m2; cases m2
            refine ⟨some (.str "indirect"), some (.str o), some (.ref w), y9, y10, parts ++ "?", M2, links ++ ([]:List Str), dn ++ [d], rest', by rw [List.length_append]; rfl, fun b v e => s5 m2 _ _ (s3 _ _ e), fun b v bl e => s5 m2 _ _ (kp b v bl e), by rw [eds, List.append_assoc]; rfl, by rw [hrs']; exact r, by rw [upd_same, List.map_append], m0, m1, by rw [len_app]; omega, by rw [List.length_append]; omega, ?_⟩
            rw [hrs', tot]
            rw [join_ind0 n]
            show (parts ++ ("?" ++ (joinN nm (l.drop (j + 1)) fs).1), links ++ (joinN nm (l.drop (j + 1)) fs).2) = _
            rw [app_assoc, List.append_assoc]
            rfl
        · skip
          refine ⟨Nat.zero_le _, fun ee ne => ⟨by show 3 ≤ sizeLine; decide, fun w nw => ?_⟩⟩
          have s4 : Same H3 (upd (upd H3 ee (.tup [])) w (.tup [.str "text", .str "?", .ref ee])) := (same_new ne).trans (same_new nw)
          have hC4 : SqT K (upd (upd H3 ee (.tup [])) w (.tup [.str "text", .str "?", .ref ee])) w [.str "text", .str "?", .ref ee] := .inl (.inl upd_same)
          have hl4 : SqT K (upd (upd H3 ee (.tup [])) w (.tup [.str "text", .str "?", .ref ee])) ee (([] : List Str).map V.str) := .inl (.inl (same_new nw _ _ upd_same))
          generalize upd (upd H3 ee (.tup [])) w (.tup [.str "text", .str "?", .ref ee]) = H4 at *
          have hsm : ("?" : Str).length ≤ 200 ∧ ([] : List Str).length ≤ 2000 := by decide
          -- parts, links
          refine ⟨_, rfl, .ref w, rfl, w, _, _, .str "?", rfl, rfl, hC4, atI_nat (j := 1) rfl, _, _, rfl, rfl, sizeLine_huge (by omega), ?_⟩
          refine ⟨.ref M, rfl, .ref w, rfl, w, _, _, .ref ee, rfl, rfl, hC4, atI_nat (j := 2) rfl, ee, _, rfl, .inr hl4, fun L2 n2 => ?_⟩
          have s5 : ∀ {u v : HO} {M2 : Addr}, upd H4 L2 u M2 = none → Same H3 (upd (upd H4 L2 u) M2 v) := fun {u v M2} m2 => s4.trans ((same_new n2).trans (same_new m2))
          have hM2 := same_new (o := .lst (([]:List Str).map V.str)) n2 _ _ (s4 _ _ hM)
          refine ⟨M, L2, _, _, rfl, rfl, hM2, upd_same, ?_, fun M2 m2 => ?_⟩
          · rw [List.length_map, List.length_map]; exact sizeLine_huge (by omega)
          have m0 : H M2 = none := by
            cases e : H M2 with
            | none => rfl
            | some v => rw [same_new n2 _ _ (s4 _ _ (s3 _ _ e))] at m2; cases m2
          have m1 : H1 M2 = none ∨ M2 = L := by
            by_cases e : M2 = L
            · exact .inr e
            · cases w : H1 M2 with
              | none => exact .inl rfl
              | some v => rw [same_new n2 _ _ (s4 _ _ (kp _ _ e w))] at m2; cases m2
          refine ⟨some (.str "indirect"), some (.str o), some (.ref w), y9, y10, parts ++ "?", M2, links ++ ([]:List Str), dn ++ [d], rest', by rw [List.length_append]; rfl, fun b v e => s5 m2 _ _ (s3 _ _ e), fun b v bl e => s5 m2 _ _ (kp b v bl e), by rw [eds, List.append_assoc]; rfl, by rw [hrs']; exact r, by rw [upd_same, List.map_append], m0, m1, by rw [len_app]; omega, by rw [List.length_append]; omega, ?_⟩
          rw [hrs', tot]
          rw [join_ind0 n]
          show (parts ++ ("?" ++ (joinN nm (l.drop (j + 1)) fs).1), links ++ (joinN nm (l.drop (j + 1)) fs).2) = _
          rw [app_assoc, List.append_assoc]
          rfl
      | @ind1 _ _ fs c x d2 ls ms h n r =>
        have h : k = "indirect" := h
        subst h
        have le : nameB c = true ∧ aft nm c = true := by
          by_cases q : nameB c = true ∧ aft nm c = true
          · exact q
          · rw [show leads nm (.text c ls) = none from if_neg q] at n
            cases n
        refine ⟨_, rfl, rfl, _, rfl, ?_⟩
        rw [show decide (V.str "indirect" = V.str "text") = false by decide +kernel]
        refine iteF ?_
        refine ⟨_, rfl, rfl, _, rfl, ?_⟩
        rw [show decide (V.str "indirect" = V.str "link") = false by decide +kernel]
        refine iteF ?_
        -- the next of found
        obtain ⟨d, rest', rfl⟩ : ∃ d rest', rest = d :: rest' := by
          cases rest with
          | nil => cases hrs
          | cons d r => exact ⟨d, r, rfl⟩
        obtain ⟨hd, hrs'⟩ : d.2 = .text c ls ∧ ress rest' = (.text d2 ms :: fs) := List.cons.inj hrs
        have hdat : ds[dn.length]? = some d := by rw [eds, List.getElem?_append_right (Nat.le_refl _), Nat.sub_self]; rfl
        obtain ⟨ga, hga, tr, hT, hR⟩ := paired_at pg hdat
        rw [hd] at hR
        obtain ⟨lk, hC, hl⟩ := hR
        have hsm : c.length ≤ 200 ∧ ls.length ≤ 2000 := by
          have := small d (List.mem_of_getElem? hdat)
          rw [hd] at this
          exact ⟨this.1, this.2.1⟩
        have hG3 := s3 _ _ hG
        have hT3 := seqT_same s3 hT
        have hC3 := seqT_same s3 hC
        have hl3 := seqT_same s3 hl
        refine ⟨.ref G, rfl, _, rfl, G, _, _, .ref ga, rfl, rfl, .inl (.inl hG3), atI_nat (by rw [List.getElem?_map, hga]; rfl), ga, _, _, .ref tr, rfl, rfl, hT3, atI_nat (j := 1) rfl, _, rfl, _, _, rfl, rfl, ?_⟩
        refine ⟨_, rfl, rfl, _, rfl, ?_⟩
        rw [show decide (V.str "indirect" = V.str "indirect") = true from decide_eq_true rfl]
        refine iteT ?_
        refine ⟨.ref tr, rfl, tr, _, _, .str c, rfl, rfl, hC3, atI_nat (j := 1) rfl, c, rfl, by omega, _, rfl, ?_⟩
        rw [le.1]
        refine iteT ?_
        refine ⟨.ref tr, rfl, tr, _, _, .str c, rfl, rfl, hC3, atI_nat (j := 1) rfl, _, rfl, _, _, rfl, rfl, _, rfl, ite2 (fun ea => ?_) (fun ea => absurd le.2 ea)⟩
        obtain ⟨dd, rest2, rfl⟩ : ∃ d rest2, rest' = d :: rest2 := by
          cases rest' with
          | nil => cases hrs'
          | cons d r => exact ⟨d, r, rfl⟩
        obtain ⟨hd2, hrs2⟩ : dd.2 = .text d2 ms ∧ ress rest2 = fs := List.cons.inj hrs'
        have hdat2 : ds[dn.length + 1]? = some dd := by rw [eds, List.getElem?_append_right (by omega), Nat.add_sub_cancel_left]; rfl
        obtain ⟨gb, hgb, tr2, hT2, hR2⟩ := paired_at pg hdat2
        rw [hd2] at hR2
        obtain ⟨lk2, hC2, hl2⟩ := hR2
        have hsm : d2.length ≤ 200 ∧ ms.length ≤ 2000 := by
          have := small dd (List.mem_of_getElem? hdat2)
          rw [hd2] at this
          exact ⟨this.1, this.2.1⟩
        have hT23 := seqT_same s3 hT2
        have hC4 := seqT_same s3 hC2
        have hl4 := seqT_same s3 hl2
        have s4 : Same H3 H3 := Same.refl _
        have i1 : ((dn.length : Nat) : Int) + 1 = ((dn.length + 1 : Nat) : Int) := by omega
        refine ⟨.ref G, rfl, _, rfl, G, _, _, .ref gb, rfl, rfl, .inl (.inl hG3), ?_, gb, _, _, .ref tr2, rfl, rfl, hT23, atI_nat (j := 1) rfl, _, rfl, _, _, rfl, rfl, ?_⟩
        · rw [i1]
          exact atI_nat (by rw [List.getElem?_map, hgb]; rfl)
        -- parts, links
        refine ⟨_, rfl, .ref tr2, rfl, tr2, _, _, .str d2, rfl, rfl, hC4, atI_nat (j := 1) rfl, _, _, rfl, rfl, sizeLine_huge (by omega), ?_⟩
        refine ⟨.ref M, rfl, .ref tr2, rfl, tr2, _, _, .ref lk2, rfl, rfl, hC4, atI_nat (j := 2) rfl, lk2, _, rfl, .inr hl4, fun L2 n2 => ?_⟩
        have s5 : ∀ {u v : HO} {M2 : Addr}, upd H3 L2 u M2 = none → Same H3 (upd (upd H3 L2 u) M2 v) := fun {u v M2} m2 => s4.trans ((same_new n2).trans (same_new m2))
        have hM2 := same_new (o := .lst (ms.map V.str)) n2 _ _ (s4 _ _ hM)
        refine ⟨M, L2, _, _, rfl, rfl, hM2, upd_same, ?_, fun M2 m2 => ?_⟩
        · rw [List.length_map, List.length_map]; exact sizeLine_huge (by omega)
        have m0 : H M2 = none := by
          cases e : H M2 with
          | none => rfl
          | some v => rw [same_new n2 _ _ (s4 _ _ (s3 _ _ e))] at m2; cases m2
        have m1 : H1 M2 = none ∨ M2 = L := by
          by_cases e : M2 = L
          · exact .inr e
          · cases w : H1 M2 with
            | none => exact .inl rfl
            | some v => rw [same_new n2 _ _ (s4 _ _ (kp _ _ e w))] at m2; cases m2
        refine ⟨some (.str "indirect"), some (.str o), some (.ref tr2), y9, y10, parts ++ d2, M2, links ++ ms, dn ++ [d,dd], rest2, by rw [List.length_append]; rfl, fun b v e => s5 m2 _ _ (s3 _ _ e), fun b v bl e => s5 m2 _ _ (kp b v bl e), by rw [eds, List.append_assoc]; rfl, by rw [hrs2]; exact r, by rw [upd_same, List.map_append], m0, m1, by rw [len_app]; omega, by rw [List.length_append]; omega, ?_⟩
        rw [hrs2, tot]
        rw [join_ind1 n]
        show (parts ++ (d2 ++ (joinN nm (l.drop (j + 1)) fs).1), links ++ (ms ++ (joinN nm (l.drop (j + 1)) fs).2)) = _
        rw [app_assoc, List.append_assoc]
    · rintro σ H3 ⟨y6, y7, y8, y9, y10, parts, M, links, dn, rest, rfl, s3, kp, eds, fit3, hM, nM, M1, lp, ll, tot⟩
      rw [List.length_map, lts] at tot lp ll
      rw [List.drop_length] at tot
      have tot : joinN nm l (ress ds) = (parts, links) := by
        rw [tot]
        show (parts ++ (⟨#[]⟩ : Str), links ++ []) = _
        rw [List.append_nil, show parts ++ (⟨#[]⟩ : Str) = parts from cd_inj (by rw [cd_app]; exact List.append_nil _)]
      -- rising
      refine ⟨Nat.zero_le _, fun R nR => ?_⟩
      have hM4 := same_new (o := .lst []) nR _ _ hM
      have s4 := s3.trans (same_new (o := .lst []) nR)
      have nR0 : H R = none := by
        cases e : H R with
        | none => rfl
        | some v => rw [s3 _ _ e] at nR; cases nR
      refine ⟨.ref M, rfl, M, links, rfl, .inl (.inl hM4), fun ys p perm srt np => ?_⟩
      have hR5 := same_new (o := .lst (ys.map V.str)) np _ _ (upd_same (H := H3) (a := R) (o := .lst []))
      have s5 := s4.trans (same_new (o := .lst (ys.map V.str)) np)
      have pR : p ≠ R := (ne_of_none upd_same np).symm
      have lys : ys.length = links.length := perm.length_eq
      refine ⟨p, rfl, ⟨_, .inl (.inl upd_same)⟩, ?_⟩
      refine for_list (K := K) (a := p) (xs := ys.map V.str) (fun j σ H4 => ∃ (y10 : Option V) (rs : List Str), σ = [some (.str nm), some (.str t), some (.ref G), some (.str parts), some (.ref M), some (.int (dn.length : Nat)), y6, y7, y8, some (.ref R), y10] ∧
          Same H H4 ∧ H4 p = some (.lst (ys.map V.str)) ∧ H4 R = some (.lst (rs.map V.str)) ∧ Rise rs ∧ (∀ x, x ∈ rs ↔ x ∈ ys.take j) ∧ rs.length ≤ j)
        ⟨_, [], rfl, s5, upd_same, hR5, List.Pairwise.nil, fun x => Iff.rfl, Nat.le_refl _⟩ (fun j σ H4 _ ⟨_, _, _, _, e, _⟩ => .inl (.inl e)) ?_ ?_
      · rintro j y σ H4 hy ⟨y10, rs, rfl, s6, hp, hR, rr, mem, le⟩
        obtain ⟨x, hx, rfl⟩ : ∃ x, ys[j]? = some x ∧ y = V.str x := by
          rw [List.getElem?_map] at hy
          cases e : ys[j]? with
          | none => rw [e] at hy; cases hy
          | some x => rw [e] at hy; exact ⟨x, rfl, (Option.some.inj hy).symm⟩
        have jl : j < ys.length := by
          by_cases lt : j < ys.length
          · exact lt
          · rw [List.getElem?_eq_none (by omega)] at hx; cases hx
        have tk : ys.take (j + 1) = ys.take j ++ [x] := by rw [List.take_add_one, hx]; rfl
        refine ⟨_, rfl, .ref R, rfl, R, _, rfl, .inl (.inl (.inl hR)), rfl, flat_strs rs, _, rfl, ?_⟩
        rw [inV_strs]
        refine ite2 (fun e => ?_) (fun e => ?_)
        · have nin : x ∉ rs := by simpa using e
          refine ⟨.ref R, rfl, .inl ⟨rfl, _, .inl (.inl hR)⟩, _, rfl, R, _, _, rfl, rfl, hR, ?_, ?_⟩
          · rw [List.length_map]
            exact Nat.lt_of_le_of_lt (show rs.length ≤ 5000000 by omega) (by decide)
          refine ⟨_, rs ++ [x], rfl, fun b v e => by rw [upd_ne (ne_of_none e nR0)]; exact s6 _ _ e, by rw [upd_ne pR]; exact hp, by rw [upd_same, List.map_append]; rfl, rise_snoc rr mem srt hx nin, fun w => ?_, by rw [List.length_append]; show rs.length + 1 ≤ _; omega⟩
          rw [tk, List.mem_append, List.mem_append, mem w]
        · have isin : x ∈ rs := by simpa using e
          refine ⟨_, rs, rfl, s6, hp, hR, rr, fun w => ?_, by omega⟩
          rw [tk, List.mem_append, ← mem w]
          constructor
          · exact Or.inl
          · rintro (h | h)
            · exact h
            · rw [List.mem_singleton.mp h]; exact isin
      · rintro σ H4 ⟨y10, rs, rfl, s6, hp, hR, rr, mem, le⟩
        have ers : rs = rise links := rise_ext rr (rise_rise _) fun x => by
          rw [mem x, List.length_map, List.take_length, mem_rise]
          exact perm.mem_iff
        have jn : joinedN nm l (ress ds) = if 200 < parts.length then .long nm else .text parts (rise links) := by
          unfold joinedN
          rw [tot]
        rw [jn] at q
        refine ⟨_, rfl, _, rfl, sizeLine_huge (by omega), _, _, rfl, rfl, _, rfl, ite2 (fun e => ?_) (fun e => ?_)⟩
        · have e1 : 200 < parts.length := by have := of_decide_eq_true e; omega
          rw [if_pos e1] at q
          refine ⟨_, rfl, by show 2 ≤ sizeLine; decide, fun r nr => ?_⟩
          exact q _ r (s6.trans (same_new nr)) (.inl (.inl upd_same))
        · have e1 : ¬ 200 < parts.length := fun h => e (decide_eq_true (by omega))
          rw [if_neg e1] at q
          refine ⟨_, rfl, .ref R, rfl, R, _, rfl, .inl ⟨.inl (.inl hR), fun u nu => ⟨by show 3 ≤ sizeLine; decide, fun r nr => ?_⟩⟩⟩
          refine q _ r (s6.trans ((same_new nu).trans (same_new nr))) ⟨u, .inl (.inl upd_same), .inl (.inl (same_new nr _ _ ?_))⟩
          rw [upd_same, ers]
end
end K07

namespace K07
open PySem PySem.Spec PyProof.Rows L2 Pg
def isText : Res → Bool
  | .text _ _ => true
  | _ => false
def bangs (z : Str) : Nat := (z.cps.toList.filter fun c => decide (c = 33)).length
theorem count_bang (z : Str) : Txt.count z ⟨#[33]⟩ = (bangs z : Nat) := by
  rw [count_cnt]
  unfold bangs
  have h : ∀ l : List Nat, cnt 33 l = ((l.filter fun c => decide (c = 33)).length : Nat) := by
    intro l
    induction l with
    | nil => rfl
    | cons x r ih =>
      rw [cnt_cons, ih]
      by_cases e : x = 33
      · subst e
        simp
        omega
      · simp [e]
  exact h _
/-- what a name with a text renders to, by the results that it wants -/
def renderedN (nm t : Str) (att : Int) (fs : List Res) : Res := if att ≤ (bangs t : Nat) then .failed nm else match fs.find? (fun r => !isText r) with
  | some r => r
  | none => joinedN nm (segs nameB (aft nm) t 0 0) fs
def spRendered (K : PySem.W.Frag) : Sp := fun vs H Q _ => ∃ (nm t : Str) (att : Int) (F : Addr) (ds : List (Str × Res)), vs = [.str nm, .str t, .int att, .ref F] ∧ t.length ≤ 1000 ∧ Codes t ∧ DepsAt K H F ds ∧
  ((∀ r ∈ ress ds, isText r = true) → Fits nm (segs nameB (aft nm) t 0 0) (ress ds)) ∧ (∀ d ∈ ds, d.2.small) ∧ ∀ (H' : Hp) (r : Addr), Same H H' → ResAt K H' r (renderedN nm t att (ress ds)) → Q (.ref r) H'
/-- what depends on results that are all texts, fits -/
theorem deps_fit (R : Str → Res) (nm : Str) : ∀ l : List Seg, (∀ s ∈ l, s.1 = "text" ∨ s.1 ∈ kinds) → (∀ r ∈ ress (depsN R nm l), isText r = true) → Fits nm l (ress (depsN R nm l))
  | [], _, _ => .nil
  | s :: l, hk, h => by
    have e : depsN R nm (s :: l) = dep1 R nm s ++ depsN R nm l := by unfold depsN; rw [List.flatMap_cons]
    have er : ress (depsN R nm (s :: l)) = ress (dep1 R nm s) ++ ress (depsN R nm l) := by rw [e]; exact List.map_append
    rw [er] at h ⊢
    have ih := deps_fit R nm l (fun x hx => hk x (List.mem_cons_of_mem _ hx)) fun r hr => h r (List.mem_append_right _ hr)
    obtain ⟨k, o⟩ := s
    have hk : k = "text" ∨ k ∈ kinds := hk _ List.mem_cons_self
    have cases4 : k = "text" ∨ k = "include" ∨ k = "indirect" ∨ k = "link" := by
      rcases hk with h | h
      · exact .inl h
      · simp only [kinds, List.mem_cons, List.not_mem_nil, or_false] at h
        exact .inr h
    rcases cases4 with rfl | rfl | rfl | rfl
    · exact .text rfl ih
    · have e1 : dep1 R nm (("include" : Str), o) = [(o, R o)] := rfl
      rw [e1] at h ⊢
      have tx := h (R o) (List.mem_append_left _ List.mem_cons_self)
      show Fits nm _ (R o :: _)
      cases hR : R o with
      | text c ls => exact .inc rfl ih
      | failed n => rw [hR] at tx; cases tx
      | long n => rw [hR] at tx; cases tx
    · have e1 : dep1 R nm (("indirect" : Str), o) = (o, R o) :: (match leads nm (R o) with | some c => [(c, R c)] | none => []) := rfl
      rw [e1] at h ⊢
      have tx := h (R o) (List.mem_append_left _ List.mem_cons_self)
      cases hR : R o with
      | failed n => rw [hR] at tx; cases tx
      | long n => rw [hR] at tx; cases tx
      | text c ls =>
        rw [hR] at h
        cases hl : leads nm (.text c ls) with
        | none => exact .ind0 rfl hl ih
        | some x =>
          rw [hl] at h
          have tx2 := h (R x) (List.mem_append_left _ (List.mem_cons_of_mem _ List.mem_cons_self))
          show Fits nm _ (.text c ls :: R x :: _)
          cases hx : R x with
          | text d ms => exact .ind1 rfl hl ih
          | failed n => rw [hx] at tx2; cases tx2
          | long n => rw [hx] at tx2; cases tx2
    · exact .link rfl ih
section
variable {P : Program} {w : World} {K : PySem.W.Frag} {mg : Str → Option Value} {base : Heap} {f : Addr} {fd : FuncData}
theorem ok_law_rendered (F : Fun K "_law_rendered" "_law_rendered" s_law_rendered f fd) (z : Z mg) (claw_joined : Cal P w K mg base "_law_joined" 4 ["name", "text", "found"] (spJoined K)) :
    FnOk P w K mg base CX0 5 f fd ["name", "text", "attempts", "found"] (spRendered K) := by
  refine F.ok sc_law_rendered (fun vs H Q E h => ?_) (fun cdv A outer s H vs Q E hr h => ?_)
  · obtain ⟨nm, t, att, G, ds, rfl, _⟩ := h
    rfl
  · obtain ⟨nm, t, att, G, ds, rfl, few, codes, ⟨gs, hG, pg⟩, fit, small, q⟩ := h
    refine ⟨_, (pss_cons (ps_if (pt_cmpR op_ge (pe_bm PySem.F.plainAttrs_str PySem.F.slot_str_count PySem.F.type_str_count mt_count (pv 1) (pa_cons pe_str pa_nil)) (pv 2) (nomark _))
        (pss_one (ps_ret (pe_tup (pa_cons pe_str (pa_cons (pv 0) pa_nil)))))
        pss_nil)
      (pss_cons (ps_for PassesOwn.never rfl (pi_list (pv 3)) (pg_tup rfl (pgs_cons (pg_name (i := 4) sc_law_rendered.nd rfl (Or.inl rfl)) (pgs_cons (pg_name (i := 5) sc_law_rendered.nd rfl (Or.inl rfl)) pgs_nil)))
        (pss_one (ps_if (pt_cmpR op_ne (pe_ix ix_tup (pv 5) pe_int (fun _ _ => rfl)) pe_str (nomark _))
          (pss_one (ps_ret (pv 5)))
          pss_nil)))
      (pss_one (ps_ret (pe_cal claw_joined (hr.mono (by decide)) (by rfl) (pa_cons (pv 0) (pa_cons (pv 1) (pa_cons (pv 3) pa_nil)))))))), ?_⟩
    have s33 : ("!" : Str) = ⟨#[33]⟩ := by decide +kernel
    refine ⟨_, rfl, rfl, t, "!", rfl, rfl, ?_⟩
    rw [s33, count_bang]
    refine ⟨_, rfl, _, _, rfl, rfl, _, rfl, ite2 (fun e => ?_) (fun e => ?_)⟩
    · have e1 : att ≤ (bangs t : Nat) := by have := of_decide_eq_true e; omega
      refine ⟨_, rfl, by show 2 ≤ sizeLine; decide, fun r nr => q _ r (same_new nr) ?_⟩
      unfold renderedN
      rw [if_pos e1]
      exact .inl (.inl upd_same)
    · have e1 : ¬ att ≤ (bangs t : Nat) := fun h => e (decide_eq_true (by omega))
      unfold renderedN at q
      rw [if_neg e1] at q
      have lg := paired_len pg
      refine ⟨.ref G, rfl, G, rfl, ⟨_, .inl (.inl hG)⟩, ?_⟩
      refine for_list (K := K) (a := G) (xs := gs.map V.ref) (fun j σ H3 => ∃ y4 y5 : Option V, σ = [some (.str nm), some (.str t), some (.int att), some (.ref G), y4, y5] ∧ H3 = H ∧ ∀ d ∈ ds.take j, isText d.2 = true)
        ⟨_, _, rfl, rfl, by intro d hd; simp at hd⟩ (fun j σ H3 _ ⟨_, _, _, e, _⟩ => by rw [e]; exact .inl (.inl hG)) ?_ ?_
      · rintro j y σ H3 hy ⟨y4, y5, rfl, rfl, all⟩
        obtain ⟨ga, hga, rfl⟩ : ∃ a, gs[j]? = some a ∧ y = V.ref a := by
          rw [List.getElem?_map] at hy
          cases e : gs[j]? with
          | none => rw [e] at hy; cases hy
          | some a => rw [e] at hy; exact ⟨a, rfl, (Option.some.inj hy).symm⟩
        have hj : j < ds.length := by
          rw [← lg]
          by_cases lt : j < gs.length
          · exact lt
          · rw [List.getElem?_eq_none (by omega)] at hga; cases hga
        have hd : ds[j]? = some ds[j] := List.getElem?_eq_getElem hj
        obtain ⟨ga', hga', tr, hT, hR⟩ := paired_at pg hd
        obtain rfl : ga = ga' := Option.some.inj (hga.symm.trans hga')
        have tk : ds.take (j + 1) = ds.take j ++ [ds[j]] := by rw [List.take_add_one, hd]; rfl
        have split : ds = ds.take j ++ ds[j] :: ds.drop (j + 1) := by rw [← List.drop_eq_getElem_cons hj, List.take_append_drop]
        generalize ds[j] = d at *
        obtain ⟨n0, r⟩ := d
        have fnd : isText r = false → (ress ds).find? (fun r => !isText r) = some r := fun nt => by
          rw [split]
          unfold ress
          rw [List.map_append, List.find?_append]
          have no : ((ds.take j).map Prod.snd).find? (fun r => !isText r) = none := by
            rw [List.find?_eq_none]
            intro x hx
            obtain ⟨d, hd, rfl⟩ := List.mem_map.mp hx
            rw [all d hd]
            decide
          rw [no, List.map_cons, List.find?_cons]
          show Option.or none (match !isText r with | true => some r | false => _) = _
          rw [nt]
          rfl
        refine ⟨ga, _, rfl, hT, rfl, _, _, rfl, _, _, rfl, rfl, ?_⟩
        cases r with
        | failed n =>
          have hR : SqT K H3 tr [.str "failed", .str n] := hR
          refine ⟨.ref tr, rfl, tr, _, _, .str "failed", rfl, rfl, hR, atI_nat (j := 0) rfl, rfl, _, rfl, ?_⟩
          rw [show (!decide (V.str "failed" = V.str "text")) = true by decide +kernel]
          refine iteT ?_
          refine ⟨.ref tr, rfl, q _ tr (Same.refl _) ?_⟩
          rw [fnd rfl]
          exact hR
        | long n =>
          have hR : SqT K H3 tr [.str "long", .str n] := hR
          refine ⟨.ref tr, rfl, tr, _, _, .str "long", rfl, rfl, hR, atI_nat (j := 0) rfl, rfl, _, rfl, ?_⟩
          rw [show (!decide (V.str "long" = V.str "text")) = true by decide +kernel]
          refine iteT ?_
          refine ⟨.ref tr, rfl, q _ tr (Same.refl _) ?_⟩
          rw [fnd rfl]
          exact hR
        | text c ls =>
          obtain ⟨lk, hC, hl⟩ := hR
          refine ⟨.ref tr, rfl, tr, _, _, .str "text", rfl, rfl, hC, atI_nat (j := 0) rfl, rfl, _, rfl, ?_⟩
          rw [show (!decide (V.str "text" = V.str "text")) = false by rw [decide_eq_true rfl]; rfl]
          refine iteF ?_
          refine ⟨_, _, rfl, rfl, fun d hd => ?_⟩
          rw [tk] at hd
          rcases List.mem_append.mp hd with h | h
          · exact all d h
          · rw [List.mem_singleton.mp h]; rfl
      · rintro σ H3 ⟨y4, y5, rfl, rfl, all⟩
        rw [List.length_map, lg, List.take_length] at all
        have allr : ∀ r ∈ ress ds, isText r = true := fun r hr => by
          obtain ⟨d, hd, rfl⟩ := List.mem_map.mp hr
          exact all d hd
        have none : (ress ds).find? (fun r => !isText r) = none := by
          rw [List.find?_eq_none]
          intro x hx
          rw [allr x hx]
          decide
        rw [none] at q
        exact ⟨_, rfl, _, rfl, _, rfl, nm, t, G, ds, rfl, few, codes, ⟨gs, hG, pg⟩, fit allr, small, fun H' r s' hr => q H' r s' hr⟩
end
end K07

namespace K07
open PySem PySem.Spec PyProof.Rows L2 Pg
theorem depsN_congr {R R' : Str → Res} {nm : Str} (e : ∀ n, aft nm n = true → R n = R' n) : ∀ {l : List Seg}, (∀ s ∈ l, s.1 = "text" ∨ (s.1 = "link" ∧ nameB s.2 = true) ∨ ((s.1 = "include" ∨ s.1 = "indirect") ∧ nameB s.2 = true ∧ aft nm s.2 = true)) → depsN R nm l = depsN R' nm l
  | [], _ => rfl
  | s :: l, h => by
    have ih := depsN_congr e (l := l) fun x hx => h x (List.mem_cons_of_mem _ hx)
    have e1 : ∀ R : Str → Res, depsN R nm (s :: l) = dep1 R nm s ++ depsN R nm l := fun R => by unfold depsN; rw [List.flatMap_cons]
    rw [e1, e1, ih]
    congr 1
    have hs := h s List.mem_cons_self
    obtain ⟨k, o⟩ := s
    have hs : k = "text" ∨ (k = "link" ∧ nameB o = true) ∨ ((k = "include" ∨ k = "indirect") ∧ nameB o = true ∧ aft nm o = true) := hs
    rcases hs with rfl | ⟨rfl, _⟩ | ⟨rfl | rfl, _, ha⟩
    · rfl
    · rfl
    · show [(o, R o)] = [(o, R' o)]
      rw [e o ha]
    · show (o, R o) :: (match leads nm (R o) with | some c => [(c, R c)] | none => []) = (o, R' o) :: (match leads nm (R' o) with | some c => [(c, R' c)] | none => [])
      rw [e o ha]
      cases hl : leads nm (R' o) with
      | none => rfl
      | some c =>
        have hc : aft nm c = true := by
          cases hR : R' o with
          | text d ms =>
            rw [hR] at hl
            have hl : (if nameB d = true ∧ aft nm d = true then some d else none) = some c := hl
            split at hl
            · rename_i q
              rw [← Option.some.inj hl]
              exact q.2
            · cases hl
          | failed n => rw [hR] at hl; cases hl
          | long n => rw [hR] at hl; cases hl
        show _ :: [(c, R c)] = _ :: [(c, R' c)]
        rw [e c hc]
/-- what sources render to -/
structure Renders (R : Str → Res) (srcs : List (Str × Str)) (att : Int) : Prop where
  has : ∀ nm t, getS srcs nm = some t → R nm = renderedN nm t att (ress (depsN R nm (segs nameB (aft nm) t 0 0)))
  no : ∀ nm, getS srcs nm = none → R nm = nothing
theorem aft_ahead (x y : Str) : aft x y = ahead x y := by
  show decide (x.cps.toList < y.cps.toList) = ltCps (cd x) (cd y)
  rw [ltCps_eq]
theorem seqT_updD {K : PySem.W.Frag} {H : Hp} {a p : Addr} {xs : List V} {kv : List (Key × V)} {o : HO} (hp : H p = some (.dK kv)) (h : SqT K H a xs) : SqT K (upd H p o) a xs := by
  rcases h with (h | ⟨u, h⟩) | h
  · exact .inl (.inl (by rw [upd_ne (ne_of h hp (by intro z; cases z))]; exact h))
  · exact .inl (.inr ⟨u, by rw [upd_ne (ne_of h hp (by intro z; cases z))]; exact h⟩)
  · exact .inr h
theorem resAt_updD {K : PySem.W.Frag} {H : Hp} {t p : Addr} {kv : List (Key × V)} {o : HO} {r : Res} (hp : H p = some (.dK kv)) (h : ResAt K H t r) : ResAt K (upd H p o) t r := by
  cases r with
  | text c ls =>
    obtain ⟨l, h1, h2⟩ := h
    exact ⟨l, seqT_updD hp h1, seqT_updD hp h2⟩
  | failed n => exact seqT_updD (K := K) hp h
  | long n => exact seqT_updD (K := K) hp h
theorem resOf_put {kvs : List (Str × (Addr × Res))} {y x : Str} {v : Addr × Res} : resOf (putS kvs y v) x = if x = y then v.2 else resOf kvs x := by
  unfold resOf
  rw [get_put]
  by_cases e : x = y
  · rw [if_pos e, if_pos e]
  · rw [if_neg e, if_neg e]
theorem deps_mem {R : Str → Res} {nm : Str} {l : List Seg} {d : Str × Res} (h : d ∈ depsN R nm l) : ∃ n, d.2 = R n := by
  unfold depsN at h
  obtain ⟨s, _, hs⟩ := List.mem_flatMap.mp h
  unfold dep1 at hs
  rcases List.mem_append.mp hs with h | h
  · split at h
    · rw [List.mem_singleton.mp h]; exact ⟨_, rfl⟩
    · cases h
  · split at h
    · rcases List.mem_cons.mp h with h | h
      · rw [h]; exact ⟨_, rfl⟩
      · split at h
        · rw [List.mem_singleton.mp h]; exact ⟨_, rfl⟩
        · cases h
    · cases h
theorem join_links {nm x : Str} : ∀ {l : List Seg} {fs : List Res}, x ∈ (joinN nm l fs).2 → (∃ s ∈ l, s.1 = "link" ∧ s.2 = x) ∨ ∃ r ∈ fs, x ∈ lks r
  | [], _, h => by cases h
  | s :: l, fs, h => by
    have up : ∀ {gs : List Res}, (∀ r ∈ gs, r ∈ fs) → x ∈ (joinN nm l gs).2 → (∃ s' ∈ s :: l, s'.1 = "link" ∧ s'.2 = x) ∨ ∃ r ∈ fs, x ∈ lks r := fun {gs} sub h => by
      rcases join_links h with ⟨s', h1, h2⟩ | ⟨r, h1, h2⟩
      · exact .inl ⟨s', List.mem_cons_of_mem _ h1, h2⟩
      · exact .inr ⟨r, sub r h1, h2⟩
    unfold joinN at h
    split at h
    · exact up (fun r hr => hr) h
    · split at h
      · rename_i e
        rcases List.mem_cons.mp h with h | h
        · exact .inl ⟨s, List.mem_cons_self, e, h.symm⟩
        · exact up (fun r hr => hr) h
      · split at h
        · cases h
        · rename_i f fs
          split at h
          · split at h
            · split at h
              · cases h
              · rename_i g fs
                rcases List.mem_append.mp h with h | h
                · exact .inr ⟨g, List.mem_cons_of_mem _ List.mem_cons_self, h⟩
                · exact up (fun r hr => List.mem_cons_of_mem _ (List.mem_cons_of_mem _ hr)) h
            · exact up (fun r hr => List.mem_cons_of_mem _ hr) h
          · rcases List.mem_append.mp h with h | h
            · exact .inr ⟨f, List.mem_cons_self, h⟩
            · exact up (fun r hr => List.mem_cons_of_mem _ hr) h
theorem rise_nodup {l : List Str} (h : Rise l) : l.Nodup := h.imp fun {a b} q e => by rw [e, ahead_irr] at q; cases q
/-- links of a row U, each once -/
def Within (U : List Str) : Res → Prop
  | .text _ ls => ls.Nodup ∧ ∀ x ∈ ls, x ∈ U
  | _ => True
theorem within_lks {U : List Str} {r : Res} (h : Within U r) : ∀ x ∈ lks r, x ∈ U := by
  cases r with
  | text c ls => exact h.2
  | failed n => intro x hx; cases hx
  | long n => intro x hx; cases hx
/-- what is rendered of small results is small -/
theorem rendered_small {U : List Str} {nm t : Str} {att : Int} {fs : List Res} (hU : U.length ≤ 2000) (h6 : ∀ x ∈ U, x.length ≤ 6) (hn : nm.length ≤ 6) (sm : ∀ r ∈ fs, r.small ∧ Within U r)
    (own : ∀ s ∈ segs nameB (aft nm) t 0 0, s.1 = "link" → s.2 ∈ U) : (renderedN nm t att fs).small ∧ Within U (renderedN nm t att fs) := by
  unfold renderedN
  split
  · exact ⟨hn, trivial⟩
  · split
    · rename_i r e
      exact sm r (List.mem_of_find?_eq_some e)
    · unfold joinedN
      split
      · exact ⟨hn, trivial⟩
      · rename_i e1 e2
        have inU : ∀ x ∈ rise (joinN nm (segs nameB (aft nm) t 0 0) fs).2, x ∈ U := fun x hx => by
          rcases join_links (mem_rise.mp hx) with ⟨s, h1, h2, h3⟩ | ⟨r, h1, h2⟩
          · rw [← h3]; exact own s h1 h2
          · exact within_lks (sm r h1).2 x h2
        have ndr := rise_nodup (rise_rise (joinN nm (segs nameB (aft nm) t 0 0) fs).2)
        exact ⟨⟨by omega, Nat.le_trans (few_of ndr inU) hU, fun x hx => h6 x (inU x hx)⟩, ndr, inU⟩
def ownLinks (nm t : Str) : List Str := ((segs nameB (aft nm) t 0 0).filter fun s => decide (s.1 = ("link" : Str))).map Prod.snd
def allLinks (srcs : List (Str × Str)) : List Str := srcs.flatMap fun p => ownLinks p.1 p.2
theorem name_len {z : Str} (h : nameB z = true) : z.length ≤ 6 := (of_decide_eq_true (Bool.and_eq_true_iff.mp h).2).2
theorem all_short (srcs : List (Str × Str)) : ∀ x ∈ allLinks srcs, x.length ≤ 6 := by
  intro x hx
  obtain ⟨p, _, hp⟩ := List.mem_flatMap.mp hx
  obtain ⟨s, hs, rfl⟩ := List.mem_map.mp hp
  obtain ⟨h1, h2⟩ := List.mem_filter.mp hs
  have h2 : s.1 = "link" := of_decide_eq_true h2
  rcases segs_after nameB (aft p.1) p.2 p.2.length 0 0 rfl (Nat.zero_le _) s h1 with h | ⟨_, h⟩ | ⟨h, _⟩
  · rw [h2] at h
    exact absurd h (by decide +kernel)
  · exact name_len h
  · rw [h2] at h
    exact absurd h (by decide +kernel)
theorem all_few : ∀ {srcs : List (Str × Str)}, (∀ p ∈ srcs, p.2.length ≤ 60) → (allLinks srcs).length ≤ 121 * srcs.length
  | [], _ => Nat.le_refl _
  | p :: r, h => by
    have ih := all_few (srcs := r) fun q hq => h q (List.mem_cons_of_mem _ hq)
    have h1 := h p List.mem_cons_self
    have h2 := segs_few nameB (aft p.1) p.2 p.2.length 0 0 rfl (Nat.zero_le _)
    have h3 : (ownLinks p.1 p.2).length ≤ (segs nameB (aft p.1) p.2 0 0).length := by
      unfold ownLinks
      rw [List.length_map]
      exact List.length_filter_le _ _
    unfold allLinks at ih ⊢
    rw [List.flatMap_cons, List.length_append, List.length_cons]
    omega
/-- the names of a row of sources are few and short, their texts too -/
def SrcOk (srcs : List (Str × Str)) : Prop := (srcs.map (·.1)).Nodup ∧ srcs.length ≤ 12 ∧ ∀ p ∈ srcs, p.1.length ≤ 6 ∧ p.2.length ≤ 60 ∧ Codes p.2
theorem within_resOf {U : List Str} {kvs : List (Str × (Addr × Res))} (win : ∀ p ∈ kvs, Within U p.2.2) (n : Str) : Within U (resOf kvs n) := by
  unfold resOf
  cases e : getS kvs n with
  | none => exact ⟨List.nodup_nil, by intro x hx; cases hx⟩
  | some p => exact win _ (get_some e)
def spResults (K : PySem.W.Frag) : Sp := fun vs H Q _ => ∃ (D : Addr) (srcs : List (Str × Str)) (att : Int), vs = [.ref D, .int att] ∧ DictS H D srcs ∧ SrcOk srcs ∧
  ∀ (H' : Hp) (E : Addr) (kvs : List (Str × (Addr × Res))), Same H H' → H E = none → DictRes K H' E kvs → (∀ x, x ∈ kvs.map (·.1) ↔ x ∈ srcs.map (·.1)) → (∀ n, Within (allLinks srcs) (resOf kvs n)) → Renders (resOf kvs) srcs att → Q (.ref E) H'
section
variable {P : Program} {w : World} {K : PySem.W.Frag} {mg : Str → Option Value} {base : Heap} {f : Addr} {fd : FuncData}
end
end K07

namespace K07
open PySem PySem.Spec PyProof.Rows L2 Pg
/-! ### what the program's rendering promises -/
/-- a result that is known, or None -/
def OV (K : PySem.W.Frag) (H : Hp) (v : V) : Option Res → Prop
  | none => v = .non
  | some r => ∃ t, v = .ref t ∧ ResAt K H t r
theorem OV.same {K : PySem.W.Frag} {H H' : Hp} {v : V} {o : Option Res} (s : Same H H') (h : OV K H v o) : OV K H' v o := by
  cases o with
  | none => exact h
  | some r => exact let ⟨t, e, h⟩ := h; ⟨t, e, h.same s⟩
theorem OV.upd {K : PySem.W.Frag} {H : Hp} {v : V} {o : Option Res} {p : Addr} {ys : List V} {x : HO} (hp : H p = some (.lst ys)) (h : OV K H v o) : OV K (upd H p x) v o := by
  cases o with
  | none => exact h
  | some r => exact let ⟨t, e, h⟩ := h; ⟨t, e, h.upd hp⟩
def TDep (K : PySem.W.Frag) (H : Hp) (a : Addr) (d : Str × Option Res) : Prop := ∃ v, SqT K H a [.str d.1, v] ∧ OV K H v d.2
def TDeps (K : PySem.W.Frag) (H : Hp) (p : Addr) (l : List (Str × Option Res)) : Prop := ∃ ts : List Addr, H p = some (.lst (ts.map V.ref)) ∧ Paired (TDep K H) ts l
theorem TDep.same {K : PySem.W.Frag} {H H' : Hp} {a : Addr} {d : Str × Option Res} (s : Same H H') (h : TDep K H a d) : TDep K H' a d := let ⟨t, h1, h2⟩ := h; ⟨t, seqT_same s h1, h2.same s⟩
theorem TDeps.same {K : PySem.W.Frag} {H H' : Hp} {p : Addr} {l : List (Str × Option Res)} (s : Same H H') (h : TDeps K H p l) : TDeps K H' p l := let ⟨ts, h1, h2⟩ := h; ⟨ts, s _ _ h1, Paired.mapP h2 fun _ _ x => x.same s⟩
theorem TDeps.push {K : PySem.W.Frag} {H : Hp} {p a : Addr} {l : List (Str × Option Res)} {d : Str × Option Res} {ts : List Addr} (e : H p = some (.lst (ts.map V.ref))) (r : Paired (TDep K H) ts l) (h : TDep K H a d) :
    TDeps K (upd H p (.lst (ts.map V.ref ++ [.ref a]))) p (l ++ [d]) :=
  ⟨ts ++ [a], by rw [upd_same, List.map_append]; rfl, Paired.mapP (paired_app r (.cons h .nil)) fun _ _ x => let ⟨t, h1, h2⟩ := x; ⟨t, seqT_upd e h1, h2.upd e⟩⟩
/-- what known results tell of the dependencies -/
def told1 (R : Str → Option Res) (nm : Str) (s : Seg) : List (Str × Option Res) :=
  if s.1 = "include" then [(s.2, R s.2)] else if s.1 = "indirect" then (s.2, R s.2) :: (match (R s.2).bind (leads nm) with | some c => [(c, R c)] | none => []) else []
def toldN (R : Str → Option Res) (nm : Str) (l : List Seg) : List (Str × Option Res) := l.flatMap (told1 R nm)
theorem told_some (R : Str → Res) (nm : Str) (l : List Seg) : toldN (fun n => some (R n)) nm l = (depsN R nm l).map fun d => (d.1, some d.2) := by
  unfold toldN depsN
  rw [List.map_flatMap]
  congr 1
  funext s
  unfold told1 dep1
  by_cases e : s.1 = "include"
  · have e0 : ¬ s.1 = "indirect" := by rw [e]; decide +kernel
    rw [if_pos e, if_pos e, if_neg e0]
    rfl
  · rw [if_neg e, if_neg e]
    by_cases e2 : s.1 = "indirect"
    · rw [if_pos e2, if_pos e2]
      show (s.2, some (R s.2)) :: (match leads nm (R s.2) with | some c => [(c, some (R c))] | none => []) = List.map (fun d : Str × Res => (d.1, some d.2)) ((s.2, R s.2) :: (match leads nm (R s.2) with | some c => [(c, R c)] | none => []))
      cases leads nm (R s.2) <;> rfl
    · rw [if_neg e2, if_neg e2]
      rfl
theorem tdeps_some {K : PySem.W.Frag} {H : Hp} {p : Addr} {l : List (Str × Res)} (h : TDeps K H p (l.map fun d => (d.1, some d.2))) : DepsAt K H p l := by
  obtain ⟨ts, h1, h2⟩ := h
  refine ⟨ts, h1, ?_⟩
  clear h1
  induction l generalizing ts with
  | nil => cases h2; exact .nil
  | cons d l ih =>
    cases h2 with
    | cons a b =>
      obtain ⟨v, hv, t, rfl, ht⟩ := a
      exact .cons ⟨t, hv, ht⟩ (ih _ b)
theorem told1_len (R : Str → Option Res) (nm : Str) (s : Seg) : (told1 R nm s).length ≤ 2 := by
  unfold told1
  split
  · simp
  · split
    · cases (R s.2).bind (leads nm) <;> simp
    · simp
theorem toldN_len (R : Str → Option Res) (nm : Str) : ∀ l : List Seg, (toldN R nm l).length ≤ 2 * l.length
  | [] => Nat.le_refl _
  | s :: l => by
    have h1 := told1_len R nm s
    have h2 := toldN_len R nm l
    unfold toldN at h2 ⊢
    rw [List.flatMap_cons, List.length_append, List.length_cons]
    omega
theorem toldN_succ {R : Str → Option Res} {nm : Str} {l : List Seg} {j : Nat} {s : Seg} (h : l[j]? = some s) : toldN R nm (l.take (j + 1)) = toldN R nm (l.take j) ++ told1 R nm s := by
  unfold toldN
  rw [List.take_add_one, h, List.flatMap_append]
  simp
/-- the module's NOTHING, at nA -/
def TupW (K : PySem.W.Frag) (p : Addr) (xs : List V) : Prop := ∃ (o : Obj) (its : Array Value) (n : Nat), K.lookup p = some o ∧ o.cls = .type "tuple" ∧ o.data = .seq its n ∧ its.size ≤ sizeLine ∧ Vals xs its.toList
structure Nothing (K : PySem.W.Frag) (mg : Str → Option Value) (nA : Addr) : Prop where
  glob : mg "NOTHING" = some (.ref nA)
  ex : ∃ nB, TupW K nA [.str "text", .str "?", .ref nB] ∧ TupW K nB []
theorem Nothing.at_ {K : PySem.W.Frag} {mg : Str → Option Value} {nA : Addr} (n : Nothing K mg nA) (H : Hp) : ResAt K H nA nothing := let ⟨nB, h1, h2⟩ := n.ex; ⟨nB, .inr h1, .inr h2⟩
/-- a dict of results, some of them None, tells R -/
structure RDict (K : PySem.W.Frag) (H : Hp) (D : Addr) (kvs : List (Str × V)) (R : Str → Option Res) : Prop where
  at_ : H D = some (.dK (enc id kvs))
  has : ∀ n v, getS kvs n = some v → OV K H v (R n)
  no : ∀ n, getS kvs n = none → R n = some nothing
  small : ∀ n r, R n = some r → r.small
theorem RDict.same {K : PySem.W.Frag} {H H' : Hp} {D : Addr} {kvs : List (Str × V)} {R : Str → Option Res} (d : RDict K H D kvs R) (s : Same H H') : RDict K H' D kvs R := ⟨s _ _ d.at_, fun n v e => (d.has n v e).same s, d.no, d.small⟩
/-- results.get(n, NOTHING) -/
theorem RDict.get {K : PySem.W.Frag} {mg : Str → Option Value} {nA : Addr} {H : Hp} {D : Addr} {kvs : List (Str × V)} {R : Str → Option Res} (d : RDict K H D kvs R) (nt : Nothing K mg nA) (n : Str) :
    ∃ v, DGet H D (.str n) (valV (enc id kvs) (Sum.inr n)) ∧ (valV (enc id kvs) (Sum.inr n)).getD (.ref nA) = v ∧ OV K H v (R n) := by
  refine ⟨_, DGet.k (k := Sum.inr n) d.at_, rfl, ?_⟩
  rw [valV_enc]
  cases e : getS kvs n with
  | none =>
    rw [d.no n e]
    exact ⟨nA, rfl, nt.at_ H⟩
  | some v => exact d.has n v e
def spFail : Sp := fun vs H Q _ => ∃ t : Str, vs = [.str t] ∧ Q (.int (bangs t : Nat)) H
def spLeads (K : PySem.W.Frag) : Sp := fun vs H Q _ => ∃ (nm : Str) (v : V) (o : Option Res), vs = [.str nm, v] ∧ OV K H v o ∧ (∀ r, o = some r → r.small) ∧ ∀ H', Same H H' → Q (.bl (o.bind (leads nm)).isSome) H'
def spTold (K : PySem.W.Frag) : Sp := fun vs H Q _ => ∃ (nm t : Str) (D : Addr) (kvs : List (Str × V)) (R : Str → Option Res), vs = [.str nm, .str t, .ref D] ∧ RDict K H D kvs R ∧ t.length ≤ 1000 ∧ Codes t ∧
  ∀ (H' : Hp) (p : Addr), Same H H' → H p = none → TDeps K H' p (toldN R nm (segs nameB (aft nm) t 0 0)) → Q (.ref p) H'
section
variable {P : Program} {w : World} {K : PySem.W.Frag} {mg : Str → Option Value} {base : Heap} {f nA : Addr} {fd : FuncData}
theorem ok_leads_on (F : Fun K "_leads_on" "_leads_on" s_leads_on f fd) (z : Z mg) (cis_name : Cal P w K mg base "is_name" 1 ["text"] spIsNameP) (cis_after : Cal P w K mg base "is_after" 1 ["one", "other"] spAfter) :
    FnOk P w K mg base CX0 2 f fd ["name", "outcome"] (spLeads K) := by
  refine F.ok sc_leads_on (fun vs H Q E h => ?_) (fun cdv A outer s H vs Q E hr h => ?_)
  · obtain ⟨nm, v, o, rfl, _⟩ := h
    rfl
  · obtain ⟨nm, v, o, rfl, ov, small, q⟩ := h
    refine ⟨_, (pss_cons (ps_if (PW.pt (pw_or (pt_cmpR op_isN (pv 1) pe_non (nomark _)) (pw_or1 (pt_cmpR op_ne (pe_ix ix_tup (pv 1) pe_int (fun _ _ => rfl)) pe_str (nomark _)))))
        (pss_one (ps_ret pe_bl))
        pss_nil)
      (pss_one (ps_ret (pe_and (pe_cal cis_name (hr.mono (by decide)) (by rfl) (pa_cons (pe_ix ix_tup (pv 1) pe_int (fun _ _ => rfl)) pa_nil)) (pe_one (pe_cal cis_after (hr.mono (by decide)) (by rfl) (pa_cons (pe_ix ix_tup (pv 1) pe_int (fun _ _ => rfl)) (pa_cons (pv 0) pa_nil)))))))), ?_⟩
    cases o with
    | none =>
      obtain rfl : v = .non := ov
      refine ⟨_, rfl, rfl, _, rfl, iteT (iteT ?_)⟩
      exact q H (Same.refl H)
    | some r =>
      obtain ⟨t, rfl, hr'⟩ := ov
      refine ⟨_, rfl, rfl, _, rfl, iteF ?_⟩
      cases r with
      | failed n =>
        have hT : SqT K H t [.str "failed", .str n] := hr'
        refine ⟨.ref t, rfl, t, _, _, .str "failed", rfl, rfl, hT, atI_nat (j := 0) rfl, rfl, _, rfl, ?_⟩
        rw [show (!decide (V.str "failed" = V.str "text")) = true by decide +kernel]
        refine iteT ?_
        exact q H (Same.refl H)
      | long n =>
        have hT : SqT K H t [.str "long", .str n] := hr'
        refine ⟨.ref t, rfl, t, _, _, .str "long", rfl, rfl, hT, atI_nat (j := 0) rfl, rfl, _, rfl, ?_⟩
        rw [show (!decide (V.str "long" = V.str "text")) = true by decide +kernel]
        refine iteT ?_
        exact q H (Same.refl H)
      | text c ls =>
        obtain ⟨l, hT, hl⟩ := hr'
        have sm := small _ rfl
        refine ⟨.ref t, rfl, t, _, _, .str "text", rfl, rfl, hT, atI_nat (j := 0) rfl, rfl, _, rfl, ?_⟩
        rw [show (!decide (V.str "text" = V.str "text")) = false by decide +kernel]
        refine iteF ?_
        refine ⟨.ref t, rfl, t, _, _, .str c, rfl, rfl, hT, atI_nat (j := 1) rfl, c, rfl, by have := sm.1; omega, fun H1 s1 => ?_⟩
        have lead : leads nm (.text c ls) = if nameB c = true ∧ aft nm c = true then some c else none := rfl
        refine ⟨_, rfl, ite2 (fun e => ?_) (fun e => ?_)⟩
        · refine ⟨.ref t, rfl, t, _, _, .str c, rfl, rfl, seqT_same s1 hT, atI_nat (j := 1) rfl, _, rfl, c, nm, rfl, ?_⟩
          have := q H1 s1
          rw [show ((some (Res.text c ls)).bind (leads nm)) = leads nm (.text c ls) from rfl, lead] at this
          by_cases a : aft nm c = true
          · rw [if_pos ⟨e, a⟩] at this
            rw [show afterB c nm = true from a]
            exact this
          · rw [if_neg (fun h => a h.2)] at this
            rw [show afterB c nm = false from (by simpa using a : aft nm c = false)]
            exact this
        · have := q H1 s1
          rw [show ((some (Res.text c ls)).bind (leads nm)) = leads nm (.text c ls) from rfl, lead, if_neg (fun h => e h.1)] at this
          exact this
theorem ok_told_dependencies (F : Fun K "told_dependencies" "told_dependencies" s_told_dependencies f fd) (z : Z mg) (nt : Nothing K mg nA) (csplit : Cal P w K mg base "split" 3 ["name", "text"] spSplit)
    (cleads_on : Cal P w K mg base "_leads_on" 2 ["name", "outcome"] (spLeads K)) : FnOk P w K mg base CX0 4 f fd ["name", "text", "results"] (spTold K) := by
  refine F.ok sc_told_dependencies (fun vs H Q E h => ?_) (fun cdv A outer s H vs Q E hr h => ?_)
  · obtain ⟨nm, t, D, kvs, R, rfl, _⟩ := h
    rfl
  · obtain ⟨nm, t, D, kvs, R, rfl, rd, few, codes, q⟩ := h
    refine ⟨_, (pss_cons (ps_set (i := 3) sc_told_dependencies.nd rfl (Or.inl rfl) (pe_lst pa_nil))
      (pss_cons (ps_for PassesOwn.never rfl (pi_list (pe_cal csplit (hr.mono (by decide)) (by rfl) (pa_cons (pv 0) (pa_cons (pv 1) pa_nil)))) (pg_tup rfl (pgs_cons (pg_name (i := 4) sc_told_dependencies.nd rfl (Or.inl rfl)) (pgs_cons (pg_name (i := 5) sc_told_dependencies.nd rfl (Or.inl rfl)) pgs_nil)))
        (pss_one (ps_if (pt_cmpR op_in_seq (pv 4) (pe_tup (pa_cons pe_str (pa_cons pe_str pa_nil))) (by rfl))
          (pss_cons (ps_set (i := 6) sc_told_dependencies.nd rfl (Or.inl rfl) (pe_dget2 (hu_of hr) (pv 2) (pv 5) (pe_glob (v := V.ref nA) (by rfl) nt.glob rfl) ⟨by rfl, by rfl, by rfl, by rfl⟩))
          (pss_cons (ps_expr (pe_bm PySem.F.plainAttrs_list PySem.F.slot_list_append PySem.F.type_list_append mt_append (pv 3) (pa_cons (pe_tup (pa_cons (pv 5) (pa_cons (pv 6) pa_nil))) pa_nil)))
          (pss_one (ps_if (PW.pt (pw_and (pt_cmpR op_eq (pv 4) pe_str (nomark _)) (pw_and1 (pt_val (pe_cal cleads_on (hr.mono (by decide)) (by rfl) (pa_cons (pv 0) (pa_cons (pv 6) pa_nil)))))))
            (pss_cons (ps_set (i := 7) sc_told_dependencies.nd rfl (Or.inl rfl) (pe_ix ix_tup (pv 6) pe_int (fun _ _ => rfl)))
            (pss_one (ps_expr (pe_bm PySem.F.plainAttrs_list PySem.F.slot_list_append PySem.F.type_list_append mt_append (pv 3) (pa_cons (pe_tup (pa_cons (pv 7) (pa_cons (pe_dget2 (hu_of hr) (pv 2) (pv 7) (pe_glob (v := V.ref nA) (by rfl) nt.glob rfl) ⟨by rfl, by rfl, by rfl, by rfl⟩) pa_nil))) pa_nil)))))
            pss_nil))))
          pss_nil)))
      (pss_one (ps_ret (pv 3))))), ?_⟩
    refine ⟨Nat.zero_le _, fun L nL => ?_⟩
    refine ⟨_, rfl, _, rfl, nm, t, rfl, few, fun H1 S s1 nS sa => ?_⟩
    have fewS := segs_few nameB (aft nm) t t.length 0 0 rfl (Nat.zero_le _)
    have fineS := segs_fine nameB (aft nm) t t.length 0 0 rfl (Nat.le_refl _) (Nat.zero_le _)
    generalize segs nameB (aft nm) t 0 0 = l at *
    obtain ⟨ts, hS, pr⟩ := sa
    have lts := paired_len pr
    have s01 : Same H H1 := (same_new nL).trans s1
    refine ⟨S, rfl, ⟨_, .inl (.inl hS)⟩, ?_⟩
    have nSL : S ≠ L := ne_of_none upd_same nS |>.symm
    refine for_list (K := K) (a := S) (xs := ts.map V.ref) (fun j σ H3 => ∃ y4 y5 y6 y7 : Option V, σ = [some (.str nm), some (.str t), some (.ref D), some (.ref L), y4, y5, y6, y7] ∧ Same H H3 ∧ (∀ b o, b ≠ L → H1 b = some o → H3 b = some o) ∧ TDeps K H3 L (toldN R nm (l.take j)))
      ⟨_, _, _, _, rfl, s01, fun _ _ _ e => e, ⟨[], s1 _ _ upd_same, .nil⟩⟩ (fun j σ H3 _ ⟨_, _, _, _, _, _, kp, _⟩ => .inl (.inl (kp S _ nSL hS))) ?_ ?_
    · rintro j y σ H3 hy ⟨y4, y5, y6, y7, rfl, s3, kp, hL⟩
      obtain ⟨a, ha, rfl⟩ : ∃ a, ts[j]? = some a ∧ y = V.ref a := by
        rw [List.getElem?_map] at hy
        cases e : ts[j]? with
        | none => rw [e] at hy; cases hy
        | some a => rw [e] at hy; exact ⟨a, rfl, (Option.some.inj hy).symm⟩
      have hj : j < l.length := by
        rw [← lts]
        by_cases lt : j < ts.length
        · exact lt
        · rw [List.getElem?_eq_none (by omega)] at ha; cases ha
      have hs : l[j]? = some l[j] := List.getElem?_eq_getElem hj
      obtain ⟨a', ha', tu⟩ := paired_at pr hs
      obtain rfl : a = a' := Option.some.inj (ha.symm.trans ha')
      have aL : a ≠ L := ne_of tu (s1 _ _ upd_same) (by intro z; cases z)
      have tu3 : H3 a = some (.tup [.str l[j].1, .str l[j].2]) := kp a _ aL tu
      have succ := toldN_succ (R := R) (nm := nm) hs
      obtain ⟨fk, fl, fc⟩ := fineS _ (List.getElem_mem hj)
      generalize l[j] = sg at *
      have room : (toldN R nm (l.take j)).length ≤ 6100 := by
        have h1 := toldN_len R nm (l.take j)
        rw [List.length_take] at h1
        omega
      refine ⟨a, _, rfl, .inl (.inl tu3), rfl, _, _, rfl, _, _, rfl, rfl, ?_⟩
      -- kind in ("include", "indirect")
      refine ⟨_, rfl, by show 2 ≤ sizeLine; decide, fun k2 nk2 => ?_⟩
      have sk : Same H3 (upd H3 k2 (.tup [.str "include", .str "indirect"])) := same_new nk2
      refine ⟨k2, _, rfl, .inr (.inl (.inl upd_same)), rfl, by decide +kernel, _, rfl, ?_⟩
      show if inV (.str sg.1) ((["include", "indirect"] : List Str).map V.str) = true then _ else _
      rw [inV_str]
      have keepH : ∀ {H' : Hp}, Same (upd H3 k2 (.tup [.str "include", .str "indirect"])) H' → Same H H' := fun {H'} s' => s3.trans (sk.trans s')
      have keep1 : ∀ {H' : Hp}, Same (upd H3 k2 (.tup [.str "include", .str "indirect"])) H' → ∀ b o, b ≠ L → H1 b = some o → H' b = some o := fun {H'} s' b o hb e => s' _ _ (sk _ _ (kp b o hb e))
      refine ite2 (fun e => ?_) (fun e => ?_)
      · have mem := of_decide_eq_true e
        have rd3 := rd.same (s3.trans sk)
        obtain ⟨us, hU, pu⟩ := hL.same sk
        obtain ⟨v, dg, gv, ov⟩ := rd3.get nt sg.2
        refine ⟨_, rfl, D, rfl, .inl ⟨_, .inl rd3.at_⟩, _, rfl, _, dg, ?_⟩
        rw [gv]
        -- found.append((inner, outcome))
        refine ⟨.ref L, rfl, .inl ⟨rfl, _, .inl (.inl hU)⟩, _, rfl, _, rfl, by show 2 ≤ sizeLine; decide, fun u nu => ?_⟩
        have s5 := same_new (o := .tup [.str sg.2, v]) nu
        have hU5 := s5 _ _ hU
        refine ⟨L, _, _, rfl, rfl, hU5, by rw [List.length_map, paired_len pu]; exact small5 (by omega), ?_⟩
        have push1 := TDeps.push (d := (sg.2, R sg.2)) hU5 (Paired.mapP pu fun _ _ x => x.same s5) ⟨v, .inl (.inl upd_same), ov.same s5⟩
        have ov6 := (ov.same s5).upd (x := .lst (us.map V.ref ++ [.ref u])) hU5
        have sH : Same H (upd (upd (upd H3 k2 (.tup [.str "include", .str "indirect"])) u (.tup [.str sg.2, v])) L (.lst (us.map V.ref ++ [.ref u]))) := fun b o hb => by
          rw [upd_ne (ne_of_none hb nL)]
          exact keepH s5 _ _ hb
        have k1 : ∀ b o, b ≠ L → H1 b = some o → (upd (upd (upd H3 k2 (.tup [.str "include", .str "indirect"])) u (.tup [.str sg.2, v])) L (.lst (us.map V.ref ++ [.ref u]))) b = some o := fun b o hb e => by
          rw [upd_ne hb]
          exact keep1 s5 b o hb e
        clear hU5 hU pu dg gv
        generalize upd (upd (upd H3 k2 (.tup [.str "include", .str "indirect"])) u (.tup [.str sg.2, v])) L (.lst (us.map V.ref ++ [.ref u])) = H6 at *
        rw [succ]
        have sm := rd.small sg.2
        by_cases e1 : sg.1 = "include"
        · have tl : told1 R nm sg = [(sg.2, R sg.2)] := by
            unfold told1
            rw [if_pos e1]
          have e2 : decide (V.str sg.1 = V.str "indirect") = false := decide_eq_false fun h => by
            have h' := V.str.inj h
            rw [e1] at h'
            revert h'
            decide +kernel
          refine ⟨_, rfl, rfl, _, rfl, ?_⟩
          rw [e2]
          refine iteF (iteF ?_)
          refine ⟨_, _, _, _, rfl, sH, k1, ?_⟩
          rw [tl]
          exact push1
        · have e2 : sg.1 = "indirect" := by
            rcases List.mem_cons.mp mem with h | h
            · exact absurd h e1
            · exact List.mem_singleton.mp h
          have tl0 : told1 R nm sg = (sg.2, R sg.2) :: (match (R sg.2).bind (leads nm) with | some c => [(c, R c)] | none => []) := by
            unfold told1
            rw [if_neg e1, if_pos e2]
          refine ⟨_, rfl, rfl, _, rfl, ?_⟩
          rw [show decide (V.str sg.1 = V.str "indirect") = true from decide_eq_true (by rw [e2])]
          refine iteT ?_
          refine ⟨_, rfl, _, rfl, nm, v, R sg.2, rfl, ov6, sm, fun H7 s7 => ?_⟩
          have sH7 := sH.trans s7
          have k17 : ∀ b o, b ≠ L → H1 b = some o → H7 b = some o := fun b o hb e => s7 _ _ (k1 b o hb e)
          have push7 := push1.same s7
          cases ld : (R sg.2).bind (leads nm) with
          | none =>
            have tl : told1 R nm sg = [(sg.2, R sg.2)] := by rw [tl0, ld]
            refine ⟨_, rfl, iteF ?_⟩
            refine ⟨_, _, _, _, rfl, sH7, k17, ?_⟩
            rw [tl]
            exact push7
          | some c =>
            have tl : told1 R nm sg = [(sg.2, R sg.2), (c, R c)] := by rw [tl0, ld]
            refine ⟨_, rfl, iteT ?_⟩
            cases hR : R sg.2 with
            | none => rw [hR] at ld; cases ld
            | some r =>
              rw [hR] at ld ov6
              cases r with
              | failed n => cases ld
              | long n => cases ld
              | text c' ls =>
                have ld' : (if nameB c' = true ∧ aft nm c' = true then some c' else none) = some c := ld
                obtain rfl : c' = c := by
                  split at ld'
                  · exact Option.some.inj ld'
                  · cases ld'
                obtain ⟨tt, rfl, l0, hT, _⟩ := ov6
                refine ⟨.ref tt, rfl, tt, _, _, .str c', rfl, rfl, seqT_same s7 hT, atI_nat (j := 1) rfl, ?_⟩
                have rd7 := rd.same sH7
                obtain ⟨v2, dg2, gv2, ov2⟩ := rd7.get nt c'
                obtain ⟨ws, hW, pw⟩ := push7
                refine ⟨.ref L, rfl, .inl ⟨rfl, _, .inl (.inl hW)⟩, _, rfl, _, rfl, D, rfl, .inl ⟨_, .inl rd7.at_⟩, _, rfl, _, dg2, ?_⟩
                rw [gv2]
                refine ⟨by show 2 ≤ sizeLine; decide, fun u2 nu2 => ?_⟩
                have s8 := same_new (o := .tup [.str c', v2]) nu2
                have hW8 := s8 _ _ hW
                have lw := paired_len pw
                rw [List.length_append] at lw
                refine ⟨L, _, _, rfl, rfl, hW8, by rw [List.length_map, lw]; show _ + 1 < sizeLine; exact small5 (by omega), ?_⟩
                have push2 := TDeps.push (d := (c', R c')) hW8 (Paired.mapP pw fun _ _ x => x.same s8) ⟨v2, .inl (.inl upd_same), ov2.same s8⟩
                rw [List.append_assoc] at push2
                refine ⟨_, _, _, _, rfl, fun b o hb => ?_, fun b o hb e => ?_, ?_⟩
                · rw [upd_ne (ne_of_none hb nL)]
                  exact s8 _ _ (sH7 _ _ hb)
                · rw [upd_ne hb]
                  exact s8 _ _ (k17 b o hb e)
                · rw [tl]
                  exact push2
      · have nm' : sg.1 ∉ (["include", "indirect"] : List Str) := by simpa using e
        have tl : told1 R nm sg = [] := by
          unfold told1
          rw [if_neg (fun h => nm' (by rw [h]; exact List.mem_cons_self)), if_neg (fun h => nm' (by rw [h]; exact List.mem_cons_of_mem _ List.mem_cons_self))]
        refine ⟨_, _, _, _, rfl, keepH (Same.refl _), keep1 (Same.refl _), ?_⟩
        rw [succ, tl, List.append_nil]
        exact hL.same sk
    · rintro σ H3 ⟨y4, y5, y6, y7, rfl, s3, kp, hL⟩
      have e : l.take (ts.map V.ref).length = l := by rw [List.length_map, lts, List.take_length]
      rw [e] at hL
      exact ⟨.ref L, rfl, q H3 L s3 nL hL⟩
end
end K07

namespace K07
open PySem PySem.Spec PyProof.Rows L2 Pg
/-- the pieces of a text, each with its signs and links -/
def piecesN (nm : Str) : List Seg → List Res → List Res
  | [], _ => []
  | s :: r, fs => if s.1 = "text" then .text s.2 [] :: piecesN nm r fs
    else if s.1 = "link" then .text (("[" ++ s.2) ++ "]") [s.2] :: piecesN nm r fs
    else match fs with
      | [] => []
      | f :: fs => if s.1 = "indirect" then (match leads nm f with
          | some _ => (match fs with
            | [] => []
            | g :: fs => g :: piecesN nm r fs)
          | none => nothing :: piecesN nm r fs)
        else f :: piecesN nm r fs
theorem k_it : ¬ (("include" : Str) = "text") := by decide +kernel
theorem k_il : ¬ (("include" : Str) = "link") := by decide +kernel
theorem k_ii : ¬ (("include" : Str) = "indirect") := by decide +kernel
theorem k_dt : ¬ (("indirect" : Str) = "text") := by decide +kernel
theorem k_dl : ¬ (("indirect" : Str) = "link") := by decide +kernel
theorem k_lt : ¬ (("link" : Str) = "text") := by decide +kernel
theorem pieces_step {nm : Str} {s : Seg} {r : List Seg} {fs : List Res} : piecesN nm (s :: r) fs = if s.1 = "text" then .text s.2 [] :: piecesN nm r fs
    else if s.1 = "link" then .text (("[" ++ s.2) ++ "]") [s.2] :: piecesN nm r fs
    else match fs with
      | [] => []
      | f :: fs => if s.1 = "indirect" then (match leads nm f with
          | some _ => (match fs with
            | [] => []
            | g :: fs => g :: piecesN nm r fs)
          | none => nothing :: piecesN nm r fs)
        else f :: piecesN nm r fs := by
  rw [piecesN.eq_def]
theorem join_step {nm : Str} {s : Seg} {r : List Seg} {fs : List Res} : joinN nm (s :: r) fs = if s.1 = "text" then (s.2 ++ (joinN nm r fs).1, (joinN nm r fs).2)
    else if s.1 = "link" then ((("[" ++ s.2) ++ "]") ++ (joinN nm r fs).1, s.2 :: (joinN nm r fs).2)
    else match fs with
      | [] => (⟨#[]⟩, [])
      | f :: fs => if s.1 = "indirect" then (match leads nm f with
          | some _ => (match fs with
            | [] => (⟨#[]⟩, [])
            | g :: fs => (chars g ++ (joinN nm r fs).1, lks g ++ (joinN nm r fs).2))
          | none => ("?" ++ (joinN nm r fs).1, (joinN nm r fs).2))
        else (chars f ++ (joinN nm r fs).1, lks f ++ (joinN nm r fs).2) := by
  rw [joinN.eq_def]
  all_goals first | rfl | (cases fs <;> rfl)
theorem pieces_join {nm : Str} : ∀ {l : List Seg} {fs : List Res}, Fits nm l fs → joinN nm l fs = (glue ((piecesN nm l fs).map chars), (piecesN nm l fs).flatMap lks) := by
  intro l fs h
  induction h with
  | nil => rfl
  | text e r ih =>
    rw [join_step, pieces_step, if_pos e, if_pos e, ih]
    rfl
  | link e r ih =>
    rw [join_step, pieces_step, e, if_neg k_lt, if_neg k_lt, if_pos rfl, if_pos rfl, ih]
    rfl
  | inc e r ih =>
    rw [join_step, pieces_step, e, if_neg k_it, if_neg k_it, if_neg k_il, if_neg k_il]
    simp only [if_neg k_ii]
    rw [ih]
    rfl
  | ind0 e n r ih =>
    rw [join_step, pieces_step, e, if_neg k_dt, if_neg k_dt, if_neg k_dl, if_neg k_dl]
    simp only [if_true, n]
    rw [ih]
    rfl
  | ind1 e n r ih =>
    rw [join_step, pieces_step, e, if_neg k_dt, if_neg k_dt, if_neg k_dl, if_neg k_dl]
    simp only [if_true, n]
    rw [ih]
    rfl
theorem fits_text {nm kd ins : Str} {r : List Seg} {fs : List Res} (h : Fits nm ((kd, ins) :: r) fs) (e : kd = "text" ∨ kd = "link") : Fits nm r fs := by
  have no : ¬ kd = "include" ∧ ¬ kd = "indirect" := by
    rcases e with rfl | rfl
    · exact ⟨fun z => k_it z.symm, fun z => k_dt z.symm⟩
    · exact ⟨fun z => k_il z.symm, fun z => k_dl z.symm⟩
  cases h with
  | text _ r => exact r
  | link _ r => exact r
  | inc h => exact absurd h no.1
  | ind0 h => exact absurd h no.2
  | ind1 h => exact absurd h no.2
theorem fits_more {nm kd ins : Str} {r : List Seg} {fs : List Res} (h : Fits nm ((kd, ins) :: r) fs) (e1 : ¬ kd = "text") (e2 : ¬ kd = "link") :
    ∃ c ls fs', fs = .text c ls :: fs' ∧ ((kd = "include" ∧ Fits nm r fs') ∨ (kd = "indirect" ∧ leads nm (.text c ls) = none ∧ Fits nm r fs') ∨ ∃ x d ms fs'', kd = "indirect" ∧ leads nm (.text c ls) = some x ∧ fs' = .text d ms :: fs'' ∧ Fits nm r fs'') := by
  cases h with
  | text h => exact absurd h e1
  | link h => exact absurd h e2
  | inc h r => exact ⟨_, _, _, rfl, .inl ⟨h, r⟩⟩
  | ind0 h n r => exact ⟨_, _, _, rfl, .inr (.inl ⟨h, n, r⟩)⟩
  | ind1 h n r => exact ⟨_, _, _, rfl, .inr (.inr ⟨_, _, _, _, h, n, rfl, r⟩)⟩
def Pcs (K : PySem.W.Frag) (H : Hp) (p : Addr) (l : List Res) : Prop := ∃ ts : List Addr, H p = some (.lst (ts.map V.ref)) ∧ Paired (ResAt K H) ts l
theorem Pcs.push {K : PySem.W.Frag} {H : Hp} {p a : Addr} {l : List Res} {d : Res} {ts : List Addr} (e : H p = some (.lst (ts.map V.ref))) (r : Paired (ResAt K H) ts l) (h : ResAt K H a d) :
    Pcs K (upd H p (.lst (ts.map V.ref ++ [.ref a]))) p (l ++ [d]) :=
  ⟨ts ++ [a], by rw [upd_same, List.map_append]; rfl, Paired.mapP (paired_app r (.cons h .nil)) fun _ _ x => x.upd e⟩
theorem Pcs.same {K : PySem.W.Frag} {H H' : Hp} {p : Addr} {l : List Res} (s : Same H H') (h : Pcs K H p l) : Pcs K H' p l := let ⟨ts, h1, h2⟩ := h; ⟨ts, s _ _ h1, Paired.mapP h2 fun _ _ x => x.same s⟩
def spPieces (K : PySem.W.Frag) : Sp := fun vs H Q _ => ∃ (nm t : Str) (F : Addr) (ds : List (Str × Res)), vs = [.str nm, .str t, .ref F] ∧ t.length ≤ 1000 ∧ Codes t ∧ DepsAt K H F ds ∧ Fits nm (segs nameB (aft nm) t 0 0) (ress ds) ∧ (∀ d ∈ ds, d.2.small) ∧
  ∀ (H' : Hp) (p : Addr), Same H H' → H p = none → Pcs K H' p (piecesN nm (segs nameB (aft nm) t 0 0) (ress ds)) → Q (.ref p) H'
theorem glue_one (x : Str) : glue [x] = x := by
  apply cd_inj
  show cd (x ++ ⟨#[]⟩) = cd x
  rw [cd_app]
  simp
section
variable {P : Program} {w : World} {K : PySem.W.Frag} {mg : Str → Option Value} {base : Heap} {f nA : Addr} {fd : FuncData}
end
end K07

namespace K07
open PySem PySem.Spec PyProof.Rows L2 Pg
theorem piece_text {nm : Str} : ∀ {l : List Seg} {fs : List Res}, Fits nm l fs → ∀ r ∈ piecesN nm l fs, isText r = true := by
  intro l fs h
  induction h with
  | nil => intro r hr; cases hr
  | text e r ih =>
    rw [pieces_step, if_pos e]
    intro x hx
    rcases List.mem_cons.mp hx with rfl | hx
    · rfl
    · exact ih x hx
  | link e r ih =>
    rw [pieces_step, e, if_neg k_lt, if_pos rfl]
    intro x hx
    rcases List.mem_cons.mp hx with rfl | hx
    · rfl
    · exact ih x hx
  | inc e r ih =>
    rw [pieces_step, e, if_neg k_it, if_neg k_il]
    simp only [if_neg k_ii]
    intro x hx
    rcases List.mem_cons.mp hx with rfl | hx
    · rfl
    · exact ih x hx
  | ind0 e n r ih =>
    rw [pieces_step, e, if_neg k_dt, if_neg k_dl]
    simp only [if_true, n]
    intro x hx
    rcases List.mem_cons.mp hx with rfl | hx
    · rfl
    · exact ih x hx
  | ind1 e n r ih =>
    rw [pieces_step, e, if_neg k_dt, if_neg k_dl]
    simp only [if_true, n]
    intro x hx
    rcases List.mem_cons.mp hx with rfl | hx
    · rfl
    · exact ih x hx
theorem piece_small {nm t : Str} : ∀ {l : List Seg} {fs : List Res}, Fits nm l fs → (∀ s ∈ l, s.2.length ≤ 1000) → (∀ r ∈ fs, r.small) → ∀ r ∈ piecesN nm l fs, (chars r).length ≤ 1002 ∧ (lks r).length ≤ 2000 := by
  have tx : ∀ {r : Res}, r.small → (chars r).length ≤ 1002 ∧ (lks r).length ≤ 2000 := by
    intro r h
    cases r with
    | text c ls => exact ⟨Nat.le_trans h.1 (by decide), h.2.1⟩
    | failed n => exact ⟨Nat.zero_le _, Nat.zero_le _⟩
    | long n => exact ⟨Nat.zero_le _, Nat.zero_le _⟩
  intro l fs h
  induction h with
  | nil => intro _ _ r hr; cases hr
  | text e r ih =>
    rw [pieces_step, if_pos e]
    intro hl hf x hx
    rcases List.mem_cons.mp hx with rfl | hx
    · exact ⟨Nat.le_trans (hl _ List.mem_cons_self) (by decide), Nat.zero_le _⟩
    · exact ih (fun s hs => hl s (List.mem_cons_of_mem _ hs)) hf x hx
  | link e r ih =>
    rw [pieces_step, e, if_neg k_lt, if_pos rfl]
    intro hl hf x hx
    rcases List.mem_cons.mp hx with rfl | hx
    · refine ⟨?_, by show 1 ≤ 2000; decide⟩
      have := hl _ List.mem_cons_self
      have a : ("[" : Str).length = 1 := rfl
      have b : ("]" : Str).length = 1 := rfl
      show (("[" ++ _) ++ "]" : Str).length ≤ 1002
      rw [len_app, len_app]
      omega
    · exact ih (fun s hs => hl s (List.mem_cons_of_mem _ hs)) hf x hx
  | inc e r ih =>
    rw [pieces_step, e, if_neg k_it, if_neg k_il]
    simp only [if_neg k_ii]
    intro hl hf x hx
    rcases List.mem_cons.mp hx with rfl | hx
    · exact tx (hf _ List.mem_cons_self)
    · exact ih (fun s hs => hl s (List.mem_cons_of_mem _ hs)) (fun r hr => hf r (List.mem_cons_of_mem _ hr)) x hx
  | ind0 e n r ih =>
    rw [pieces_step, e, if_neg k_dt, if_neg k_dl]
    simp only [if_true, n]
    intro hl hf x hx
    rcases List.mem_cons.mp hx with rfl | hx
    · exact ⟨by show ("?" : Str).length ≤ 1002; decide, Nat.zero_le _⟩
    · exact ih (fun s hs => hl s (List.mem_cons_of_mem _ hs)) (fun r hr => hf r (List.mem_cons_of_mem _ hr)) x hx
  | ind1 e n r ih =>
    rw [pieces_step, e, if_neg k_dt, if_neg k_dl]
    simp only [if_true, n]
    intro hl hf x hx
    rcases List.mem_cons.mp hx with rfl | hx
    · exact tx (hf _ (List.mem_cons_of_mem _ List.mem_cons_self))
    · exact ih (fun s hs => hl s (List.mem_cons_of_mem _ hs)) (fun r hr => hf r (List.mem_cons_of_mem _ (List.mem_cons_of_mem _ hr))) x hx
theorem pieces_few {nm : Str} : ∀ {l : List Seg} {fs : List Res}, Fits nm l fs → (piecesN nm l fs).length ≤ l.length := by
  intro l fs h
  induction h with
  | nil => exact Nat.le_refl _
  | text e r ih =>
    rw [pieces_step, if_pos e]
    exact Nat.succ_le_succ ih
  | link e r ih =>
    rw [pieces_step, e, if_neg k_lt, if_pos rfl]
    exact Nat.succ_le_succ ih
  | inc e r ih =>
    rw [pieces_step, e, if_neg k_it, if_neg k_il]
    simp only [if_neg k_ii]
    exact Nat.succ_le_succ ih
  | ind0 e n r ih =>
    rw [pieces_step, e, if_neg k_dt, if_neg k_dl]
    simp only [if_true, n]
    exact Nat.succ_le_succ ih
  | ind1 e n r ih =>
    rw [pieces_step, e, if_neg k_dt, if_neg k_dl]
    simp only [if_true, n]
    exact Nat.succ_le_succ ih
/-- rows of the same texts, in order and each once -/
theorem rise_same {xs ls : List Str} (h1 : sortedS xs = true) (h2 : xs.Nodup) (h3 : ∀ k, k ∈ xs ↔ k ∈ ls) : xs = rise ls := by
  have pw := sorted_pw h1
  have r : Rise xs := by
    have both := List.pairwise_and_iff.mpr ⟨pw, h2⟩
    refine both.imp fun {a b} h => ?_
    cases e : ahead a b with
    | true => rfl
    | false => exact absurd (ahead_tri e h.1) h.2
  exact rise_ext r (rise_rise ls) fun x => (h3 x).trans mem_rise.symm
theorem glue_len : ∀ ys : List Str, (glue ys).length = (ys.map (·.length)).sum
  | [] => rfl
  | x :: r => by
    show (x ++ glue r).length = _
    rw [len_app, glue_len r, List.map_cons, List.sum_cons]
theorem piece_in {U : List Str} {nm : Str} {l : List Seg} {fs : List Res} (h : Fits nm l fs) (own : ∀ s ∈ l, s.1 = "link" → s.2 ∈ U) (win : ∀ r ∈ fs, Within U r) : ∀ x ∈ (piecesN nm l fs).flatMap lks, x ∈ U := by
  intro x hx
  have e := congrArg Prod.snd (pieces_join h)
  have hx : x ∈ (joinN nm l fs).2 := by rw [e]; exact hx
  rcases join_links hx with ⟨s, hs, hk, rfl⟩ | ⟨r, hr, hx⟩
  · exact own s hs hk
  · exact within_lks (win r hr) x hx
/-- what a result is joined from has few links in all -/
def spJoinR (K : PySem.W.Frag) : Sp := fun vs H Q _ => ∃ (nm t : Str) (att : Int) (F : Addr) (ds : List (Str × Res)) (U : List Str), vs = [.str nm, .str t, .int att, .ref F] ∧ t.length ≤ 1000 ∧ Codes t ∧ DepsAt K H F ds ∧
  ((∀ r ∈ ress ds, isText r = true) → Fits nm (segs nameB (aft nm) t 0 0) (ress ds)) ∧ (∀ d ∈ ds, d.2.small) ∧ U.length ≤ 2000 ∧ (∀ d ∈ ds, Within U d.2) ∧ (∀ s ∈ segs nameB (aft nm) t 0 0, s.1 = "link" → s.2 ∈ U) ∧
  ∀ (H' : Hp) (r : Addr), Same H H' → ResAt K H' r (renderedN nm t att (ress ds)) → Q (.ref r) H'
/-- a set of texts that has what a row has -/
def Has (w : World) (H : Hp) (D : Addr) (xs : List Str) : Prop := ∃ (S : Str → Bool) (n : Nat) (zs : List Str), H D = some (TS w D S n) ∧ zs.Nodup ∧ zs.length = n ∧ (∀ x, S x = true ↔ x ∈ zs) ∧ ∀ x, S x = true ↔ x ∈ xs
theorem Has.none {w : World} {H : Hp} {D : Addr} (h : H D = some (TS w D (fun _ => false) 0)) : Has w H D [] := ⟨_, _, [], h, List.nodup_nil, rfl, fun x => by simp, fun x => by simp⟩
theorem Has.put {w : World} {H : Hp} {D : Addr} {xs ys : List Str} {S : Str → Bool} {n : Nat} {zs : List Str} {z : Str} (nd : zs.Nodup) (len : zs.length = n) (h1 : ∀ x, S x = true ↔ x ∈ zs) (h2 : ∀ x, S x = true ↔ x ∈ xs) (e : ∀ x, x ∈ ys ↔ x ∈ xs ∨ x = z) :
    Has w (upd H D (TS w D (fun j => S j || decide (j = z)) (if S z = true then n else n + 1))) D ys := by
  refine ⟨_, _, if S z = true then zs else zs ++ [z], upd_same, ?_, ?_, fun x => ?_, fun x => ?_⟩
  · split
    · exact nd
    · rename_i no
      refine List.nodup_append.mpr ⟨nd, by simp, fun a ha b hb => ?_⟩
      rw [List.mem_singleton.mp hb]
      rintro rfl
      exact no ((h1 a).mpr ha)
  · split
    · exact len
    · rw [List.length_append, len]; rfl
  · rw [Bool.or_eq_true, decide_eq_true_iff, h1]
    split
    · rename_i yes
      constructor
      · rintro (h | rfl)
        · exact h
        · exact (h1 x).mp yes
      · exact Or.inl
    · rw [List.mem_append, List.mem_singleton]
  · rw [Bool.or_eq_true, decide_eq_true_iff, h2, e]
section
variable {P : Program} {w : World} {K : PySem.W.Frag} {mg : Str → Option Value} {base : Heap} {f nA : Addr} {fd : FuncData}
end
end K07

namespace K07
open PySem PySem.Spec PyProof.Rows L2 Pg
theorem get_map {α β : Type} (g : α → β) : ∀ (kvs : List (Str × α)) (k : Str), getS (kvs.map fun p => (p.1, g p.2)) k = (getS kvs k).map g
  | [], _ => rfl
  | p :: r, k => by
    show getS ((p.1, g p.2) :: r.map _) k = _
    rw [getS, getS, get_map g r k]
    split <;> rfl
theorem rdict_of {K : PySem.W.Frag} {H : Hp} {D : Addr} {kvs : List (Str × (Addr × Res))} (h : DictRes K H D kvs) : RDict K H D (kvs.map fun p => (p.1, V.ref p.2.1)) (fun n => some (resOf kvs n)) := by
  refine ⟨?_, fun n v e => ?_, fun n e => ?_, fun n r e => ?_⟩
  · rw [h.1]
    unfold enc
    rw [List.map_map]
    rfl
  · rw [get_map (fun p : Addr × Res => V.ref p.1)] at e
    unfold resOf
    cases g : getS kvs n with
    | none => rw [g] at e; cases e
    | some p =>
      rw [g] at e
      exact ⟨p.1, (Option.some.inj e).symm, (h.2 _ (get_some g)).1⟩
  · rw [get_map (fun p : Addr × Res => V.ref p.1)] at e
    unfold resOf
    cases g : getS kvs n with
    | none => rfl
    | some p => rw [g] at e; cases e
  · rw [← Option.some.inj e]
    exact resOf_small h n
section
variable {P : Program} {w : World} {K : PySem.W.Frag} {mg : Str → Option Value} {base : Heap} {f nA : Addr} {fd : FuncData}
end
end K07

namespace K07
open PySem PySem.Spec PyProof.Rows L2 Pg
/-- how many sources stand ahead of a name -/
def rank (srcs : List (Str × Str)) (x : Str) : Nat := (srcs.filter fun p => ahead p.1 x).length
theorem filter_less {α : Type} {p q : α → Bool} (sub : ∀ a, p a = true → q a = true) : ∀ {l : List α} {a : α}, a ∈ l → p a = false → q a = true → (l.filter p).length < (l.filter q).length
  | [], a, h, _, _ => by cases h
  | b :: r, a, h, hp, hq => by
    have le : ∀ l : List α, (l.filter p).length ≤ (l.filter q).length := fun l => by
      induction l with
      | nil => exact Nat.le_refl _
      | cons c l ih =>
        rw [List.filter_cons, List.filter_cons]
        cases e : p c with
        | true => rw [sub c e]; exact Nat.succ_le_succ ih
        | false =>
          cases q c with
          | true => exact Nat.le_succ_of_le ih
          | false => exact ih
    rcases List.mem_cons.mp h with rfl | h
    · rw [List.filter_cons, List.filter_cons, hp, hq]
      exact Nat.lt_succ_of_le (le r)
    · have ih := filter_less sub h hp hq
      rw [List.filter_cons, List.filter_cons]
      cases e : p b with
      | true => rw [sub b e]; exact Nat.succ_lt_succ ih
      | false =>
        cases q b with
        | true => exact Nat.lt_succ_of_lt ih
        | false => exact ih
theorem rank_lt {srcs : List (Str × Str)} {x y t : Str} (hx : getS srcs x = some t) (h : ahead x y = true) : rank srcs x < rank srcs y :=
  filter_less (fun p hp => ahead_trans hp h) (get_some hx) (ahead_irr x) h
theorem rank_le (srcs : List (Str × Str)) (x : Str) : rank srcs x ≤ srcs.length := List.length_filter_le _ _
/-- how many sources stand behind a name -/
def rest (srcs : List (Str × Str)) (x : Str) : Nat := (srcs.filter fun p => ahead x p.1).length
theorem rest_lt {srcs : List (Str × Str)} {x y t : Str} (hy : getS srcs y = some t) (h : ahead x y = true) : rest srcs y < rest srcs x :=
  filter_less (fun p hp => ahead_trans h hp) (get_some hy) (ahead_irr y) h
/-- what sources render to, is one -/
theorem renders_one {R R' : Str → Res} {srcs : List (Str × Str)} {att : Int} (h : Renders R srcs att) (h' : Renders R' srcs att) : ∀ x, R x = R' x := by
  have main : ∀ (m : Nat) (x : Str), rest srcs x < m → R x = R' x := by
    intro m
    induction m with
    | zero => intro x hx; omega
    | succ m ih =>
      intro x hx
      cases e : getS srcs x with
      | none => rw [h.no x e, h'.no x e]
      | some t =>
        have aftx := segs_after nameB (aft x) t t.length 0 0 rfl (Nat.zero_le _)
        rw [h.has x t e, h'.has x t e, depsN_congr (R := R) (R' := R') (nm := x) (fun n hn => ?_) aftx]
        rw [aft_ahead] at hn
        cases e2 : getS srcs n with
        | none => rw [h.no n e2, h'.no n e2]
        | some t2 =>
          have := rest_lt e2 hn
          exact ih n (by omega)
  exact fun x => main _ x (Nat.lt_succ_self _)
theorem renders_eq {R R' : Str → Res} {srcs : List (Str × Str)} {att : Int} (h : Renders R srcs att) (h' : Renders R' srcs att) : R = R' := funext (renders_one h h')
/-- the dependencies of a name -/
def depsIn (R : Str → Res) (srcs : List (Str × Str)) (nm : Str) : List (Str × Res) := match getS srcs nm with
  | some t => depsN R nm (segs nameB (aft nm) t 0 0)
  | none => []
def spDeps (K : PySem.W.Frag) : Sp := fun vs H Q _ => ∃ (D : Addr) (srcs : List (Str × Str)) (att : Int) (nm : Str), vs = [.ref D, .int att, .str nm] ∧ DictS H D srcs ∧ SrcOk srcs ∧
  ∀ (H' : Hp) (p : Addr), Same H H' → H p = none → (∀ R, Renders R srcs att → DepsAt K H' p (depsIn R srcs nm)) → Q (.ref p) H'
def spResult (K : PySem.W.Frag) : Sp := fun vs H Q _ => ∃ (D : Addr) (srcs : List (Str × Str)) (att : Int) (nm : Str), vs = [.ref D, .int att, .str nm] ∧ DictS H D srcs ∧ SrcOk srcs ∧
  ∀ (H' : Hp) (t : Addr), Same H H' → (∀ R, Renders R srcs att → ResAt K H' t (R nm)) → Q (.ref t) H'
theorem inV_keys {α : Type} (f : α → V) (kvs : List (Str × α)) (x : Str) : (getS kvs x).isSome = decide (x ∈ kvs.map (·.1)) := by
  rw [Bool.eq_iff_iff, decide_eq_true_eq]
  constructor
  · intro h
    cases e : getS kvs x with
    | none => rw [e] at h; cases h
    | some v => exact List.mem_map.mpr ⟨_, get_some e, rfl⟩
  · intro h
    cases e : getS kvs x with
    | none => exact absurd h (get_none.mp e)
    | some v => rfl
section
variable {P : Program} {w : World} {K : PySem.W.Frag} {mg : Str → Option Value} {base : Heap} {f nA : Addr} {fd : FuncData}
end
end K07

namespace K07
open PySem PySem.Spec PyProof.Rows L2 Pg
abbrev Tl := List (Str × (Addr × List (Str × Option Res)))
def Told (K : PySem.W.Frag) (H : Hp) (T : Addr) (tl : Tl) : Prop := H T = some (.dK (enc (fun p => V.ref p.1) tl)) ∧ ∀ p ∈ tl, TDeps K H p.2.1 p.2.2
theorem Told.same {K : PySem.W.Frag} {H H' : Hp} {T : Addr} {tl : Tl} (s : Same H H') (h : Told K H T tl) : Told K H' T tl := ⟨s _ _ h.1, fun p hp => (h.2 p hp).same s⟩
def namesOf (tl : Tl) (x : Str) : List Str := match getS tl x with
  | some p => p.2.map Prod.fst
  | none => []
/-- what is reached from pages -/
inductive Reach (g : Str → List Str) (pages : List Str) : Str → Prop where
  | page {x : Str} (h : x ∈ pages) : Reach g pages x
  | dep {x y : Str} (h : Reach g pages y) (k : x ∈ g y) : Reach g pages x
/-- a row of what is reached that has the pages, and with each name what it needs, is all that is reached -/
theorem reach_all {g : Str → List Str} {pages xs : List Str} (h1 : ∀ x ∈ pages, x ∈ xs) (h2 : ∀ x ∈ xs, ∀ y ∈ g x, y ∈ xs) {x : Str} (h : Reach g pages x) : x ∈ xs := by
  induction h with
  | page h => exact h1 _ h
  | dep _ k ih => exact h2 _ ih _ k
def spAllReq (K : PySem.W.Frag) : Sp := fun vs H Q _ => ∃ (A T : Addr) (pages U : List Str) (tl : Tl), vs = [.ref A, .ref T] ∧ (SqL K H A (pages.map V.str) ∨ SqT K H A (pages.map V.str)) ∧ Told K H T tl ∧
  pages.length ≤ 4000 ∧ U.length ≤ 4000 ∧ (∀ x ∈ pages, x ∈ U) ∧ (∀ x, ∀ y ∈ namesOf tl x, y ∈ U) ∧ (∀ x, (namesOf tl x).length ≤ 300) ∧
  ∀ (H' : Hp) (p : Addr) (xs : List Str), Same H H' → H p = none → H' p = some (.lst (xs.map V.str)) → Rise xs → (∀ x, x ∈ xs ↔ Reach (namesOf tl) pages x) → Q (.ref p) H'
theorem told_names {K : PySem.W.Frag} {H : Hp} {T : Addr} {tl : Tl} (h : Told K H T tl) (x : Str) (e : Addr) (he : H e = some (.lst [])) :
    ∃ (o : Option V) (a : Addr) (us : List Addr), DGet H T (.str x) o ∧ o.getD (.ref e) = .ref a ∧ H a = some (.lst (us.map V.ref)) ∧ Paired (fun u n => ∃ v, SqT K H u [.str n, v]) us (namesOf tl x) := by
  have dg := DGet.k (k := Sum.inr x) h.1
  rw [valV_enc] at dg
  unfold namesOf
  cases g : getS tl x with
  | none =>
    rw [g] at dg
    exact ⟨_, e, [], dg, rfl, he, .nil⟩
  | some p =>
    rw [g] at dg
    obtain ⟨ts, h1, h2⟩ := h.2 _ (get_some g)
    refine ⟨_, p.1, ts, dg, rfl, h1, ?_⟩
    show Paired _ ts (p.2.map Prod.fst)
    clear h1 dg g
    have h2 : Paired (TDep K H) ts p.2 := h2
    have go : ∀ {ts : List Addr} {l : List (Str × Option Res)}, Paired (TDep K H) ts l → Paired (fun u n => ∃ v, SqT K H u [.str n, v]) ts (l.map Prod.fst) := fun {ts l} h => by
      induction h with
      | nil => exact .nil
      | cons a b ih =>
        obtain ⟨v, hv, _⟩ := a
        exact .cons ⟨v, hv⟩ ih
    exact go h2
section
variable {P : Program} {w : World} {K : PySem.W.Frag} {mg : Str → Option Value} {base : Heap} {f nA : Addr} {fd : FuncData}
theorem ok_all_required (F : Fun K "all_required" "all_required" s_all_required f fd) (z : Z mg) : FnOk P w K mg base CX0 1 f fd ["pages", "told"] (spAllReq K) := by
  refine F.ok sc_all_required (fun vs H Q E h => ?_) (fun cdv A outer s H vs Q E hr h => ?_)
  · obtain ⟨A, T, pages, U, tl, rfl, _⟩ := h
    rfl
  · obtain ⟨G, T, pages, U, tl, rfl, hP, hT, lp, lU, pU, gU, gl, q⟩ := h
    refine ⟨_, (pss_cons (ps_set (i := 2) sc_all_required.nd rfl (Or.inl rfl) pe_dnewK)
      (pss_cons (ps_set (i := 3) sc_all_required.nd rfl (Or.inl rfl) (pe_callTy call_list_of (by rfl) z.list (by decide +kernel) (pa_cons (pv 0) pa_nil)))
      (pss_cons (ps_while PassesOwn.never (pt_truth (pv 3) (by intro _; rfl))
        (pss_cons (ps_set (i := 4) sc_all_required.nd rfl (Or.inl rfl) (pe_bm0 PySem.F.plainAttrs_list PySem.F.slot_list_pop PySem.F.type_list_pop mt_pop (pv 3)))
        (pss_one (ps_if (pt_cmp (pc_dnotin (hu_of hr) (pv 4) (pv 2)))
          (pss_cons (ps_dput (hu_of hr) (pv 2) (pv 4) pe_bl rfl)
          (pss_one (ps_expr (pe_bm PySem.F.plainAttrs_list PySem.F.slot_list_extend PySem.F.type_list_extend mt_extend (pv 3) (pa_cons (pe_lc (own := [("after", 5), ("_", 6)]) (g := (gTup K 2 (gCons (gName 5) (gCons (gName 6) gNil)))) (tt := tYes) rfl sc_all_required.nd (pi_list (pe_dget2 (hu_of hr) (pv 1) (pv 4) (pe_lst pa_nil) ⟨by rfl, by rfl, by rfl, by rfl⟩)) (blkOk_by (own := [("after", 5), ("_", 6)]) (N := ["pages", "told", "reached", "waiting", "name", "after", "_"]) (sc := defScope s_all_required) (by decide +kernel)) (fun _ _ _ _ _ => (pg_tupK (K := K) rfl rfl (pgs_cons (pg_name (i := 5) sc_all_required.nd rfl (Or.inl rfl)) (pgs_cons (pg_name (i := 6) sc_all_required.nd rfl (Or.inl rfl)) pgs_nil)))) (fun _ _ _ _ _ => pts_nil) (fun _ _ _ _ _ => (pv 5))) pa_nil)))))
          pss_nil))))
      (pss_one (ps_ret (pe_callB (cr_sortedDA rfl) (by rfl) z.sorted (by decide +kernel) (pa_cons (pv 2) pa_nil))))))), ?_⟩
    intro D nD
    have s0 : Same H (upd H D (.dK [])) := same_new nD
    have seq : SqL K (upd H D (.dK [])) G (pages.map V.str) ∨ SqT K (upd H D (.dK [])) G (pages.map V.str) := hP.imp (Same.seq s0) (seqT_same s0)
    refine ⟨.ref G, rfl, G, _, rfl, seq, fun W nW => ?_⟩
    have s1 : Same H (upd (upd H D (.dK [])) W (.lst (pages.map V.str))) := s0.trans (same_new nW)
    have nDW : D ≠ W := ne_of_none upd_same nW
    have nW0 : H W = none := by
      cases e : H W with
      | none => rfl
      | some v => rw [s0 _ _ e] at nW; cases nW
    refine ⟨fun m σ H3 => ∃ (y4 : Option V) (kvs : List (Str × Bool)) (ws : List Str), σ = [some (.ref G), some (.ref T), some (.ref D), some (.ref W), y4, none, none] ∧ Same H H3 ∧ H3 D = some (.dK (enc V.bl kvs)) ∧ H3 W = some (.lst (ws.map V.str)) ∧
      (kvs.map (·.1)).Nodup ∧ (∀ x ∈ kvs.map (·.1), x ∈ U) ∧ (∀ x ∈ ws, x ∈ U) ∧ (∀ x ∈ kvs.map (·.1), Reach (namesOf tl) pages x) ∧ (∀ x ∈ ws, Reach (namesOf tl) pages x) ∧ (∀ x ∈ pages, x ∈ kvs.map (·.1) ∨ x ∈ ws) ∧
      (∀ x ∈ kvs.map (·.1), ∀ y ∈ namesOf tl x, y ∈ kvs.map (·.1) ∨ y ∈ ws) ∧ m = (U.length - kvs.length) * 301 + ws.length ∧ ws.length ≤ 4000 + 300 * kvs.length,
      ⟨_, _, [], pages, rfl, s1, same_new nW _ _ upd_same, upd_same, List.nodup_nil, (by intro x hx; cases hx), pU, (by intro x hx; cases hx), fun x hx => .page hx, fun x hx => .inr hx, (by intro x hx; cases hx), rfl, by omega⟩, ?_⟩
    rintro m σ H3 ⟨y4, kvs, ws, rfl, s3, hD, hW, nd, kU, wU, kR, wR, pg, cl, em, lw⟩
    have lk : kvs.length ≤ U.length := by
      have := few_of nd kU
      rwa [List.length_map] at this
    refine ⟨_, rfl, _, .inl ⟨_, .inl (.inl hW), rfl⟩, ?_⟩
    cases hws : ws.reverse with
    | nil =>
      obtain rfl : ws = [] := by simpa using hws
      refine iteF ?_
      refine ⟨.ref D, rfl, D, _, kvs.map (·.1), rfl, .inl hD, by unfold enc; rw [List.map_map, List.map_map]; rfl, by rw [List.length_map]; omega, fun ys p perm srt np => ?_⟩
      have er : ys = rise ys := rise_same srt (perm.nodup_iff.mpr nd) fun k => Iff.rfl
      refine q _ p ys (s3.trans (same_new np)) ?_ upd_same (by rw [er]; exact rise_rise _) fun x => ?_
      · cases w : H p with
        | none => rfl
        | some v => rw [s3 _ _ w] at np; cases np
      · rw [perm.mem_iff]
        constructor
        · exact kR x
        · refine reach_all (fun x hx => ?_) (fun x hx y hy => ?_)
          · rcases pg x hx with h | h
            · exact h
            · cases h
          · rcases cl x hx y hy with h | h
            · exact h
            · cases h
    | cons x r =>
      obtain rfl : ws = r.reverse ++ [x] := by
        have := congrArg List.reverse hws
        simpa using this
      have et : (!((r.reverse ++ [x]).map V.str).isEmpty) = true := by
        rw [List.map_append]
        cases r.reverse.map V.str <;> rfl
      rw [et]
      refine iteT ?_
      clear hws
      generalize r.reverse = vs at *
      have xU : x ∈ U := wU x (List.mem_append_right _ List.mem_cons_self)
      have xR : Reach (namesOf tl) pages x := wR x (List.mem_append_right _ List.mem_cons_self)
      refine ⟨fun σ H3 => ∃ m', m' < m ∧ ∃ (y4 : Option V) (kvs : List (Str × Bool)) (ws : List Str), σ = [some (.ref G), some (.ref T), some (.ref D), some (.ref W), y4, none, none] ∧ Same H H3 ∧ H3 D = some (.dK (enc V.bl kvs)) ∧ H3 W = some (.lst (ws.map V.str)) ∧
        (kvs.map (·.1)).Nodup ∧ (∀ x ∈ kvs.map (·.1), x ∈ U) ∧ (∀ x ∈ ws, x ∈ U) ∧ (∀ x ∈ kvs.map (·.1), Reach (namesOf tl) pages x) ∧ (∀ x ∈ ws, Reach (namesOf tl) pages x) ∧ (∀ x ∈ pages, x ∈ kvs.map (·.1) ∨ x ∈ ws) ∧
        (∀ x ∈ kvs.map (·.1), ∀ y ∈ namesOf tl x, y ∈ kvs.map (·.1) ∨ y ∈ ws) ∧ m' = (U.length - kvs.length) * 301 + ws.length ∧ ws.length ≤ 4000 + 300 * kvs.length, fun σ' H' h => h, ?_⟩
      -- waiting.pop()
      refine ⟨.ref W, rfl, .inl ⟨rfl, _, .inl (.inl hW)⟩, W, _, .str x, rfl, rfl, hW, ?_, ?_⟩
      · rw [List.map_append, List.length_append]
        show (vs.map V.str ++ [V.str x])[(vs.map V.str).length + 1 - 1]? = _
        rw [Nat.add_sub_cancel, List.getElem?_append_right (Nat.le_refl _), Nat.sub_self]
        rfl
      have ed : ((vs ++ [x]).map V.str).dropLast = vs.map V.str := by rw [List.map_append]; exact List.dropLast_concat
      rw [ed]
      have s4 : Same H (upd H3 W (.lst (vs.map V.str))) := fun b o e => by rw [upd_ne (ne_of_none e nW0)]; exact s3 _ _ e
      have hD4 : upd H3 W (.lst (vs.map V.str)) D = some (.dK (enc V.bl kvs)) := by rw [upd_ne nDW]; exact hD
      have hW4 : upd H3 W (.lst (vs.map V.str)) W = some (.lst (vs.map V.str)) := upd_same
      generalize upd H3 W (.lst (vs.map V.str)) = H4 at *
      rw [List.length_append] at em lw
      have em : m = (U.length - kvs.length) * 301 + (vs.length + 1) := em
      have lw : vs.length + 1 ≤ 4000 + 300 * kvs.length := lw
      have dg := DGet.k (k := Sum.inr x) hD4
      rw [valV_enc] at dg
      refine ⟨_, rfl, _, rfl, D, _, rfl, dg, _, rfl, ?_⟩
      rw [show ((getS kvs x).map V.bl).isSome = (getS kvs x).isSome by cases getS kvs x <;> rfl]
      cases gx : getS kvs x with
      | some v =>
        have inK : x ∈ kvs.map (·.1) := List.mem_map.mpr ⟨_, get_some gx, rfl⟩
        refine iteF ?_
        refine ⟨m - 1, by omega, _, kvs, vs, rfl, s4, hD4, hW4, nd, kU, fun x hx => wU x (List.mem_append_left _ hx), kR, fun x hx => wR x (List.mem_append_left _ hx), fun y hy => ?_, fun y hy z hz => ?_, by omega, by omega⟩
        · rcases pg y hy with h | h
          · exact .inl h
          · rcases List.mem_append.mp h with h | h
            · exact .inr h
            · rw [List.mem_singleton.mp h]; exact .inl inK
        · rcases cl y hy z hz with h | h
          · exact .inl h
          · rcases List.mem_append.mp h with h | h
            · exact .inr h
            · rw [List.mem_singleton.mp h]; exact .inl inK
      | none =>
        refine iteT ?_
        have ninK : x ∉ kvs.map (·.1) := get_none.mp gx
        have lk1 : kvs.length + 1 ≤ U.length := by
          have := few_of (xs := x :: kvs.map (·.1)) (ys := U) (List.nodup_cons.mpr ⟨ninK, nd⟩) fun y hy => by
            rcases List.mem_cons.mp hy with rfl | hy
            · exact xU
            · exact kU y hy
          rwa [List.length_cons, List.length_map] at this
        have ekeys : (putS kvs x true).map (·.1) = kvs.map (·.1) ++ [x] := by rw [keys_put, gx, if_neg (by decide)]
        have elen : (putS kvs x true).length = kvs.length + 1 := by
          have := congrArg List.length ekeys
          rw [List.length_map, List.length_append, List.length_map] at this
          exact this
        -- reached[name] = True
        refine ⟨.ref D, rfl, _, rfl, D, _, rfl, DPut.k (k := Sum.inr x) hD4 (by unfold enc; rw [List.length_map]; exact small5 (by omega)), ?_⟩
        rw [putK_enc V.bl kvs x true]
        have s5 : Same H (upd H4 D (.dK (enc V.bl (putS kvs x true)))) := fun b o e => by rw [upd_ne (ne_of_none e nD)]; exact s4 _ _ e
        have hD5 : upd H4 D (.dK (enc V.bl (putS kvs x true))) D = some (.dK (enc V.bl (putS kvs x true))) := upd_same
        have hW5 : upd H4 D (.dK (enc V.bl (putS kvs x true))) W = some (.lst (vs.map V.str)) := by rw [upd_ne nDW.symm]; exact hW4
        generalize upd H4 D (.dK (enc V.bl (putS kvs x true))) = H5 at *
        -- what the name needs
        refine ⟨.ref W, rfl, .inl ⟨rfl, _, .inl (.inl hW5)⟩, _, rfl, T, rfl, .inl ⟨_, .inl (s5 _ _ hT.1)⟩, _, rfl, Nat.zero_le _, fun e ne => ?_⟩
        obtain ⟨o, a, us, dgo, eo, ha, pr⟩ := told_names (hT.same (s5.trans (same_new ne))) x e upd_same
        refine ⟨o, dgo, ?_⟩
        rw [eo]
        refine ⟨a, rfl, ⟨_, .inl (.inl ha)⟩, fun C nC => ?_⟩
        have lns := gl x
        have nsU := gU x
        have nsR : ∀ y ∈ namesOf tl x, Reach (namesOf tl) pages y := fun y hy => .dep xR hy
        have clx := cl
        generalize hns : namesOf tl x = ns at *
        have len := paired_len pr
        refine lc_list (K := K) (a := a) (xs := us.map V.ref) (fun i H3 => Same (upd H5 e (.lst [])) H3 ∧ H3 C = some (.lst ((ns.take i).map V.str))) ⟨same_new nC, upd_same⟩ (fun i H3 _ h => .inl (.inl (h.1 _ _ ha))) ?_ ?_
        · rintro i y H3 hy ⟨sm, hC⟩
          obtain ⟨u, hu, rfl⟩ : ∃ u, us[i]? = some u ∧ y = V.ref u := by
            rw [List.getElem?_map] at hy
            cases e : us[i]? with
            | none => rw [e] at hy; cases hy
            | some a => rw [e] at hy; exact ⟨a, rfl, (Option.some.inj hy).symm⟩
          have hi : i < ns.length := by rw [← len]; exact (List.getElem?_eq_some_iff.mp hu).1
          have hl : ns[i]? = some ns[i] := List.getElem?_eq_getElem hi
          obtain ⟨u', hu', v, hv⟩ := paired_at pr hl
          rw [hu] at hu'
          obtain rfl := Option.some.inj hu'
          refine ⟨u, _, rfl, seqT_same sm hv, rfl, _, _, rfl, _, _, rfl, rfl, rfl, yes ?_⟩
          refine iteT ?_
          refine ⟨_, rfl, _, hC, ?_, ?_, ?_⟩
          · rw [List.length_map, List.length_take]
            exact small5 (by omega)
          · intro b o e
            rw [upd_ne (ne_of_none e nC)]
            exact sm _ _ e
          · rw [upd_same, List.take_add_one, hl, List.map_append]
            rfl
        · rintro H6 ⟨sm, hC⟩
          rw [List.length_map, len, List.take_length] at hC
          have hW6 := sm _ _ (same_new (o := .lst []) ne _ _ hW5)
          have hD6 := sm _ _ (same_new (o := .lst []) ne _ _ hD5)
          have s6 : Same H H6 := s5.trans ((same_new ne).trans sm)
          refine ⟨W, C, _, _, rfl, rfl, hW6, hC, ?_, ?_⟩
          · rw [List.length_map, List.length_map]
            exact sizeLine_huge (by omega)
          rw [← List.map_append]
          refine ⟨(U.length - (kvs.length + 1)) * 301 + (vs.length + ns.length), by omega, _, putS kvs x true, vs ++ ns, rfl, fun b o e => by rw [upd_ne (ne_of_none e nW0)]; exact s6 _ _ e, by rw [upd_ne nDW]; exact hD6, upd_same, ?_, ?_, ?_, ?_, ?_, ?_, ?_, ?_, ?_⟩
          · exact nodup_put x true nd
          · intro y hy
            rw [ekeys] at hy
            rcases List.mem_append.mp hy with h | h
            · exact kU y h
            · rw [List.mem_singleton.mp h]; exact xU
          · intro y hy
            rcases List.mem_append.mp hy with h | h
            · exact wU y (List.mem_append_left _ h)
            · exact nsU y h
          · intro y hy
            rw [ekeys] at hy
            rcases List.mem_append.mp hy with h | h
            · exact kR y h
            · rw [List.mem_singleton.mp h]; exact xR
          · intro y hy
            rcases List.mem_append.mp hy with h | h
            · exact wR y (List.mem_append_left _ h)
            · exact nsR y h
          · intro y hy
            rw [ekeys]
            rcases pg y hy with h | h
            · exact .inl (List.mem_append_left _ h)
            · rcases List.mem_append.mp h with h | h
              · exact .inr (List.mem_append_left _ h)
              · exact .inl (List.mem_append_right _ h)
          · intro y hy z hz
            rw [ekeys] at hy ⊢
            rcases List.mem_append.mp hy with h | h
            · rcases clx y h z hz with h | h
              · exact .inl (List.mem_append_left _ h)
              · rcases List.mem_append.mp h with h | h
                · exact .inr (List.mem_append_left _ h)
                · exact .inl (List.mem_append_right _ h)
            · rw [List.mem_singleton.mp h, hns] at hz
              exact .inr (List.mem_append_right _ hz)
          · rw [elen, List.length_append]
          · rw [elen, List.length_append]
            omega
end
end K07

namespace K07
open PySem PySem.Spec PyProof.Rows L2 Pg
def needs (R : Str → Res) (srcs : List (Str × Str)) (y : Str) : List Str := (depsIn R srcs y).map Prod.fst
def spRequired (K : PySem.W.Frag) : Sp := fun vs H Q _ => ∃ (D A : Addr) (srcs : List (Str × Str)) (att : Int) (pages : List Str), vs = [.ref D, .int att, .ref A] ∧ DictS H D srcs ∧ SrcOk srcs ∧ SqT K H A (pages.map V.str) ∧ pages.length ≤ 100 ∧ pages.Nodup ∧
  ∀ (H' : Hp) (p : Addr) (xs : List Str), Same H H' → H p = none → H' p = some (.lst (xs.map V.str)) → Rise xs → (∀ R, Renders R srcs att → ∀ x, x ∈ xs ↔ Reach (needs R srcs) pages x) → Q (.ref p) H'
theorem get_of_mem {α : Type} : ∀ {kvs : List (Str × α)} {k : Str} {v : α}, (kvs.map (·.1)).Nodup → (k, v) ∈ kvs → getS kvs k = some v
  | [], _, _, _, h => by cases h
  | p :: r, k, v, nd, h => by
    obtain ⟨n1, n2⟩ := List.nodup_cons.mp nd
    unfold getS
    rcases List.mem_cons.mp h with rfl | h
    · rw [if_pos rfl]
    · rw [if_neg]
      · exact get_of_mem n2 h
      · intro e
        exact n1 (List.mem_map.mpr ⟨_, h, e.symm⟩)
theorem seqT_updF {K : PySem.W.Frag} {H : Hp} {a p : Addr} {xs : List V} {kv : List (Key × V)} {u : Obj} {o : HO} (hp : H p = some (.frz u (.dK kv))) (h : SqT K H a xs) : SqT K (upd H p o) a xs := by
  rcases h with (h | ⟨u, h⟩) | h
  · exact .inl (.inl (by rw [upd_ne (ne_of h hp (by intro z; cases z))]; exact h))
  · exact .inl (.inr ⟨u, by rw [upd_ne (ne_of h hp (by intro z; cases z))]; exact h⟩)
  · exact .inr h
theorem resAt_updF {K : PySem.W.Frag} {H : Hp} {t p : Addr} {kv : List (Key × V)} {u : Obj} {o : HO} {r : Res} (hp : H p = some (.frz u (.dK kv))) (h : ResAt K H t r) : ResAt K (upd H p o) t r := by
  cases r with
  | text c ls =>
    obtain ⟨l, h1, h2⟩ := h
    exact ⟨l, seqT_updF hp h1, seqT_updF hp h2⟩
  | failed n => exact seqT_updF (K := K) hp h
  | long n => exact seqT_updF (K := K) hp h
theorem ov_updF {K : PySem.W.Frag} {H : Hp} {v : V} {p : Addr} {kv : List (Key × V)} {u : Obj} {o : HO} {r : Option Res} (hp : H p = some (.frz u (.dK kv))) (h : OV K H v r) : OV K (upd H p o) v r := by
  cases r with
  | none => exact h
  | some r => exact let ⟨t, e, h⟩ := h; ⟨t, e, resAt_updF hp h⟩
theorem tdeps_updF {K : PySem.W.Frag} {H : Hp} {a p : Addr} {kv : List (Key × V)} {u : Obj} {o : HO} {l : List (Str × Option Res)} (hp : H p = some (.frz u (.dK kv))) (h : TDeps K H a l) : TDeps K (upd H p o) a l :=
  let ⟨ts, h1, h2⟩ := h
  ⟨ts, by rw [upd_ne (ne_of h1 hp (by intro z; cases z))]; exact h1, Paired.mapP h2 fun _ _ x => let ⟨v, h3, h4⟩ := x; ⟨v, seqT_updF hp h3, ov_updF hp h4⟩⟩
theorem tdeps_upd {K : PySem.W.Frag} {H : Hp} {a p : Addr} {kv : List (Key × V)} {o : HO} {l : List (Str × Option Res)} (hp : H p = some (.dK kv)) (h : TDeps K H a l) : TDeps K (upd H p o) a l := by
  obtain ⟨ts, h1, h2⟩ := h
  refine ⟨ts, by rw [upd_ne (ne_of h1 hp (by intro z; cases z))]; exact h1, Paired.mapP h2 fun _ _ x => ?_⟩
  obtain ⟨v, h3, h4⟩ := x
  refine ⟨v, seqT_updD hp h3, ?_⟩
  revert h4
  rename_i _ b
  cases b.2 with
  | none => exact id
  | some r => exact fun ⟨t, e, h⟩ => ⟨t, e, resAt_updD hp h⟩
theorem flat_len {α : Type} {f : α → List Str} {n : Nat} (h : ∀ x, (f x).length ≤ n) : ∀ l : List α, (l.flatMap f).length ≤ n * l.length
  | [] => Nat.le_refl _
  | x :: r => by
    have h1 := flat_len h r
    have h2 := h x
    rw [List.flatMap_cons, List.length_append, List.length_cons, Nat.mul_add]
    omega
section
variable {P : Program} {w : World} {K : PySem.W.Frag} {mg : Str → Option Value} {base : Heap} {f nA : Addr} {fd : FuncData}
end
end K07

namespace K07
open PySem PySem.Spec PyProof.Rows L2 Pg
theorem leads_aft {nm c : Str} {r : Res} (h : leads nm r = some c) : aft nm c = true := by
  cases r with
  | text d ms =>
    have h : (if nameB d = true ∧ aft nm d = true then some d else none) = some c := h
    split at h
    · rename_i q
      rw [← Option.some.inj h]
      exact q.2
    · cases h
  | failed n => cases h
  | long n => cases h
theorem deps_after {R : Str → Res} {nm t : Str} {d : Str × Res} (h : d ∈ depsN R nm (segs nameB (aft nm) t 0 0)) : aft nm d.1 = true := by
  unfold depsN at h
  obtain ⟨s, hs, h⟩ := List.mem_flatMap.mp h
  have a := segs_after nameB (aft nm) t t.length 0 0 rfl (Nat.zero_le _) s hs
  have no : ∀ {k : Str}, s.1 = k → (k = "include" ∨ k = "indirect") → aft nm s.2 = true := fun {k} e hk => by
    rcases a with a | ⟨a, _⟩ | ⟨_, _, a⟩
    · rw [e] at a
      rcases hk with rfl | rfl
      · exact absurd a k_it
      · exact absurd a k_dt
    · rw [e] at a
      rcases hk with rfl | rfl
      · exact absurd a k_il
      · exact absurd a k_dl
    · exact a
  unfold dep1 at h
  rcases List.mem_append.mp h with h | h
  · split at h
    · rename_i e
      rw [List.mem_singleton.mp h]
      exact no e (.inl rfl)
    · cases h
  · split at h
    · rename_i e
      rcases List.mem_cons.mp h with h | h
      · rw [h]
        exact no e (.inr rfl)
      · split at h
        · rename_i c hl
          rw [List.mem_singleton.mp h]
          exact leads_aft hl
        · cases h
    · cases h
theorem needs_after {R : Str → Res} {srcs : List (Str × Str)} {x y : Str} (h : y ∈ needs R srcs x) : ahead x y = true ∧ ∃ t, getS srcs x = some t := by
  unfold needs depsIn at h
  cases e : getS srcs x with
  | none => rw [e] at h; cases h
  | some t =>
    rw [e] at h
    obtain ⟨d, hd, rfl⟩ := List.mem_map.mp h
    rw [← aft_ahead]
    exact ⟨deps_after hd, t, rfl⟩
theorem seqT_keep {K : PySem.W.Frag} {H H' : Hp} {L a : Addr} {zs xs : List V} (hL : H L = some (.lst zs)) (kp : ∀ b o, b ≠ L → H b = some o → H' b = some o) (h : SqT K H a xs) : SqT K H' a xs := by
  rcases h with (h | ⟨u, h⟩) | h
  · exact .inl (.inl (kp _ _ (ne_of h hL (by intro z; cases z)) h))
  · exact .inl (.inr ⟨u, kp _ _ (ne_of h hL (by intro z; cases z)) h⟩)
  · exact .inr h
section
variable {P : Program} {w : World} {K : PySem.W.Frag} {mg : Str → Option Value} {base : Heap} {f nA : Addr} {fd : FuncData}
end
end K07

namespace K07
open PySem PySem.Spec PyProof.Rows L2 Pg
/-! ### what is rendered, as data -/
theorem lit_codes {z : Str} (h : z.cps.toList.all (fun c => decide (c < 1114112)) = true) : Codes z := fun c hc => of_decide_eq_true (List.all_eq_true.mp h c hc)
theorem safe_codes {z : Str} (h : Safe z) : Codes z := fun c hc => by
  have := (Bool.and_eq_true_iff.mp (h c hc)).1
  have := of_decide_eq_true this
  omega
theorem app_ok {x y : Str} (a : Codes x) (b : Codes y) : Codes (x ++ y) := fun c hc => by
  rw [cd_app] at hc
  exact (List.mem_append.mp hc).elim (a c) (b c)
theorem name_codes {z : Str} (h : nameB z = true) : Codes z := fun c hc => by
  have h1 := (List.all_eq_true.mp (Bool.and_eq_true_iff.mp h).1) c hc
  have := of_decide_eq_true h1
  omega
theorem deps_name {R : Str → Res} {nm t : Str} {d : Str × Res} (h : d ∈ depsN R nm (segs nameB (aft nm) t 0 0)) : nameB d.1 = true := by
  unfold depsN at h
  obtain ⟨s, hs, h⟩ := List.mem_flatMap.mp h
  have a := segs_after nameB (aft nm) t t.length 0 0 rfl (Nat.zero_le _) s hs
  have no : ∀ {k : Str}, s.1 = k → (k = "include" ∨ k = "indirect") → nameB s.2 = true := fun {k} e hk => by
    rcases a with a | ⟨_, a⟩ | ⟨_, a, _⟩
    · rw [e] at a
      rcases hk with rfl | rfl
      · exact absurd a k_it
      · exact absurd a k_dt
    · exact a
    · exact a
  unfold dep1 at h
  rcases List.mem_append.mp h with h | h
  · split at h
    · rename_i e
      rw [List.mem_singleton.mp h]
      exact no e (.inl rfl)
    · cases h
  · split at h
    · rename_i e
      rcases List.mem_cons.mp h with h | h
      · rw [h]
        exact no e (.inr rfl)
      · split at h
        · rename_i c hl
          rw [List.mem_singleton.mp h]
          cases hR : R s.2 with
          | text d ms =>
            rw [hR] at hl
            have hl : (if nameB d = true ∧ aft nm d = true then some d else none) = some c := hl
            split at hl
            · rename_i q
              rw [← Option.some.inj hl]
              exact q.1
            · cases hl
          | failed n => rw [hR] at hl; cases hl
          | long n => rw [hR] at hl; cases hl
        · cases h
    · cases h
theorem deps_is {R : Str → Res} {nm : Str} {l : List Seg} {d : Str × Res} (h : d ∈ depsN R nm l) : d.2 = R d.1 := by
  unfold depsN at h
  obtain ⟨s, _, hs⟩ := List.mem_flatMap.mp h
  unfold dep1 at hs
  rcases List.mem_append.mp hs with h | h
  · split at h
    · rw [List.mem_singleton.mp h]
    · cases h
  · split at h
    · rcases List.mem_cons.mp h with h | h
      · rw [h]
      · split at h
        · rw [List.mem_singleton.mp h]
        · cases h
    · cases h
/-- its signs are signs -/
def RCodes : Res → Prop
  | .text c ls => Codes c ∧ ∀ x ∈ ls, Codes x
  | .failed n => Codes n
  | .long n => Codes n
theorem chars_codes {r : Res} (h : RCodes r) : Codes (chars r) ∧ ∀ x ∈ lks r, Codes x := by
  cases r with
  | text c ls => exact h
  | failed n => exact ⟨fun c hc => (by cases hc), fun x hx => (by cases hx)⟩
  | long n => exact ⟨fun c hc => (by cases hc), fun x hx => (by cases hx)⟩
theorem q_codes : Codes "?" ∧ Codes "[" ∧ Codes "]" := ⟨lit_codes (by decide +kernel), lit_codes (by decide +kernel), lit_codes (by decide +kernel)⟩
theorem join_codes {nm : Str} {l : List Seg} {fs : List Res} (h : Fits nm l fs) (own : ∀ s ∈ l, Codes s.2) (all : ∀ r ∈ fs, RCodes r) : Codes (joinN nm l fs).1 ∧ ∀ x ∈ (joinN nm l fs).2, Codes x := by
  induction h with
  | nil => exact ⟨fun c hc => (by cases hc), fun x hx => (by cases hx)⟩
  | @text s l fs e r ih =>
    obtain ⟨i1, i2⟩ := ih (fun s hs => own s (List.mem_cons_of_mem _ hs)) all
    rw [join_step, if_pos e]
    exact ⟨app_ok (own _ List.mem_cons_self) i1, i2⟩
  | @link s l fs e r ih =>
    obtain ⟨i1, i2⟩ := ih (fun s hs => own s (List.mem_cons_of_mem _ hs)) all
    rw [join_step, e, if_neg k_lt, if_pos rfl]
    refine ⟨app_ok (app_ok (app_ok q_codes.2.1 (own _ List.mem_cons_self)) q_codes.2.2) i1, fun x hx => ?_⟩
    rcases List.mem_cons.mp hx with rfl | hx
    · exact own _ List.mem_cons_self
    · exact i2 x hx
  | @inc s l fs c ls e r ih =>
    obtain ⟨i1, i2⟩ := ih (fun s hs => own s (List.mem_cons_of_mem _ hs)) fun r hr => all r (List.mem_cons_of_mem _ hr)
    rw [join_step, e, if_neg k_it, if_neg k_il]
    simp only [if_neg k_ii]
    have a := chars_codes (all _ List.mem_cons_self)
    exact ⟨app_ok a.1 i1, fun x hx => (List.mem_append.mp hx).elim (a.2 x) (i2 x)⟩
  | @ind0 s l fs c ls e n r ih =>
    obtain ⟨i1, i2⟩ := ih (fun s hs => own s (List.mem_cons_of_mem _ hs)) fun r hr => all r (List.mem_cons_of_mem _ hr)
    rw [join_step, e, if_neg k_dt, if_neg k_dl]
    simp only [if_true, n]
    exact ⟨app_ok q_codes.1 i1, i2⟩
  | @ind1 s l fs c y d ls ms e n r ih =>
    obtain ⟨i1, i2⟩ := ih (fun s hs => own s (List.mem_cons_of_mem _ hs)) fun r hr => all r (List.mem_cons_of_mem _ (List.mem_cons_of_mem _ hr))
    rw [join_step, e, if_neg k_dt, if_neg k_dl]
    simp only [if_true, n]
    have a := chars_codes (all _ (List.mem_cons_of_mem _ List.mem_cons_self))
    exact ⟨app_ok a.1 i1, fun x hx => (List.mem_append.mp hx).elim (a.2 x) (i2 x)⟩
theorem rendered_codes {nm t : Str} {att : Int} {fs : List Res} (hn : Codes nm) (ht : Codes t) (fit : (∀ r ∈ fs, isText r = true) → Fits nm (segs nameB (aft nm) t 0 0) fs) (all : ∀ r ∈ fs, RCodes r) : RCodes (renderedN nm t att fs) := by
  unfold renderedN
  split
  · exact hn
  · split
    · rename_i r e
      exact all r (List.mem_of_find?_eq_some e)
    · rename_i e
      have allr : ∀ r ∈ fs, isText r = true := fun r hr => by
        have := List.find?_eq_none.mp e r hr
        simpa using this
      have fineS := segs_fine nameB (aft nm) t t.length 0 0 rfl (Nat.le_refl _) (Nat.zero_le _)
      obtain ⟨j1, j2⟩ := join_codes (fit allr) (fun s hs c hc => ht c ((fineS s hs).2.2 c hc)) all
      unfold joinedN
      split
      · exact hn
      · exact ⟨j1, fun x hx => j2 x (mem_rise.mp hx)⟩
/-- all that sources render to, is of a known size -/
theorem renders_fine {R : Str → Res} {srcs : List (Str × Str)} {att : Int} (h : Renders R srcs att) (ok : SrcOk srcs) (names : ∀ p ∈ srcs, Codes p.1) : ∀ x, (R x).small ∧ Within (allLinks srcs) (R x) ∧ RCodes (R x) := by
  have lim : (allLinks srcs).length ≤ 2000 := by
    have := all_few (srcs := srcs) fun p hp => (ok.2.2 p hp).2.1
    have := ok.2.1
    omega
  have no : nothing.small ∧ Within (allLinks srcs) nothing ∧ RCodes nothing := ⟨⟨by decide +kernel, by decide, by intro x hx; cases hx⟩, ⟨List.nodup_nil, by intro x hx; cases hx⟩, q_codes.1, by intro x hx; cases hx⟩
  have main : ∀ (m : Nat) (x : Str), rest srcs x < m → (R x).small ∧ Within (allLinks srcs) (R x) ∧ RCodes (R x) := by
    intro m
    induction m with
    | zero => intro x hx; omega
    | succ m ih =>
      intro x hx
      cases e : getS srcs x with
      | none => rw [h.no x e]; exact no
      | some t =>
        obtain ⟨n6, t60, codes⟩ := ok.2.2 _ (get_some e)
        have fineS := segs_kinds nameB (aft x) t t.length 0 0 rfl (Nat.le_refl _) (Nat.zero_le _)
        have al : ∀ d ∈ depsN R x (segs nameB (aft x) t 0 0), d.2.small ∧ Within (allLinks srcs) d.2 ∧ RCodes d.2 := fun d hd => by
          have a1 := deps_after hd
          rw [deps_is hd]
          rw [aft_ahead] at a1
          cases e2 : getS srcs d.1 with
          | none => rw [h.no _ e2]; exact no
          | some t2 => exact ih _ (by have := rest_lt e2 a1; omega)
        have alr : ∀ r ∈ ress (depsN R x (segs nameB (aft x) t 0 0)), r.small ∧ Within (allLinks srcs) r ∧ RCodes r := fun r hr => by
          obtain ⟨d, hd, rfl⟩ := List.mem_map.mp hr
          exact al d hd
        rw [h.has x t e]
        have s1 := rendered_small (U := allLinks srcs) (nm := x) (t := t) (att := att) (fs := ress (depsN R x (segs nameB (aft x) t 0 0))) lim (all_short srcs) n6 (fun r hr => ⟨(alr r hr).1, (alr r hr).2.1⟩)
          (fun s hs hk => List.mem_flatMap.mpr ⟨(x, t), get_some e, List.mem_map.mpr ⟨s, List.mem_filter.mpr ⟨hs, decide_eq_true hk⟩, rfl⟩⟩)
        exact ⟨s1.1, s1.2, rendered_codes (names _ (get_some e)) codes (deps_fit R x _ fun s hs => (fineS s hs).1) fun r hr => (alr r hr).2.2⟩
  exact fun x => main _ x (Nat.lt_succ_self _)
/-- few links stand in a short text -/
theorem own_few {nm t : Str} (h : t.length ≤ 60) : (ownLinks nm t).length ≤ 30 := by
  have g := glue_all nameB (aft nm) t
  have l := glue_len ((segs nameB (aft nm) t 0 0).map textOf)
  rw [g] at l
  have two : ∀ ss : List Seg, 2 * (ss.filter fun s => decide (s.1 = ("link" : Str))).length ≤ ((ss.map textOf).map (·.length)).sum := fun ss => by
    induction ss with
    | nil => exact Nat.le_refl _
    | cons s r ih =>
      rw [List.filter_cons, List.map_cons, List.map_cons, List.sum_cons]
      split
      · rename_i c
        have c := of_decide_eq_true c
        obtain ⟨k, z⟩ := s
        obtain rfl : k = "link" := c
        rw [text_link, len_app, len_app, List.length_cons]
        have a : ("[" : Str).length = 1 := rfl
        have b : ("]" : Str).length = 1 := rfl
        omega
      · omega
  have := two (segs nameB (aft nm) t 0 0)
  unfold ownLinks
  rw [List.length_map]
  omega
theorem links_few : ∀ {srcs : List (Str × Str)}, (∀ p ∈ srcs, p.2.length ≤ 60) → (allLinks srcs).length ≤ 30 * srcs.length
  | [], _ => Nat.le_refl _
  | p :: r, h => by
    have ih := links_few (srcs := r) fun q hq => h q (List.mem_cons_of_mem _ hq)
    have h1 := own_few (nm := p.1) (h p List.mem_cons_self)
    unfold allLinks at ih ⊢
    rw [List.flatMap_cons, List.length_append, List.length_cons]
    omega
def resD : Res → PyData
  | .text c ls => .tuple [.str "text", .str c, .tuple (ls.map .str)]
  | .failed n => .tuple [.str "failed", .str n]
  | .long n => .tuple [.str "long", .str n]
theorem strs_dp {K : PySem.W.Frag} {H : Hp} : ∀ xs : List Str, DpAll K H (xs.map V.str) (xs.map .str)
  | [] => .nil
  | x :: r => .cons (.str x) (strs_dp r)
theorem res_dp {K : PySem.W.Frag} {H : Hp} {t : Addr} {r : Res} (h : ResAt K H t r) : Dp K H (.ref t) (resD r) := by
  cases r with
  | text c ls =>
    obtain ⟨l, h1, h2⟩ := h
    exact .tup h1 (.cons (.str _) (.cons (.str _) (.cons (.tup h2 (strs_dp ls)) .nil)))
  | failed n => exact .tup (show SqT K H t [.str "failed", .str n] from h) (.cons (.str _) (.cons (.str _) .nil))
  | long n => exact .tup (show SqT K H t [.str "long", .str n] from h) (.cons (.str _) (.cons (.str _) .nil))
def depD (d : Str × Res) : PyData := .tuple [.str d.1, resD d.2]
theorem deps_dp {K : PySem.W.Frag} {H : Hp} {p : Addr} {l : List (Str × Res)} (h : DepsAt K H p l) : Dp K H (.ref p) (.list (l.map depD)) := by
  obtain ⟨ts, h1, h2⟩ := h
  refine .lst (.inl (.inl h1)) ?_
  clear h1
  induction h2 with
  | nil => exact .nil
  | cons a b ih =>
    obtain ⟨t, h3, h4⟩ := a
    exact .cons (.tup h3 (.cons (.str _) (.cons (res_dp h4) .nil))) ih
theorem word_sz : Sz 0 8 (.str "text") ∧ Sz 0 8 (.str "failed") ∧ Sz 0 8 (.str "long") :=
  ⟨.str (lit_codes (by decide +kernel)) (by decide +kernel), .str (lit_codes (by decide +kernel)) (by decide +kernel), .str (lit_codes (by decide +kernel)) (by decide +kernel)⟩
theorem strs_sz {xs : List Str} {n : Nat} (h : ∀ x ∈ xs, x.length ≤ 6 ∧ Codes x) (l : xs.length ≤ n) : SzA 0 (n * 7) (xs.map PyData.str) :=
  SzA.all (M := 6) (fun d hd => by obtain ⟨x, hx, rfl⟩ := List.mem_map.mp hd; exact .str (h x hx).2 (h x hx).1) (by rw [List.length_map]; exact l)
theorem res_sz {U : List Str} {r : Res} (hU : U.length ≤ 360) (s : r.small) (w : Within U r) (c : RCodes r) : Sz 2 2731 (resD r) := by
  cases r with
  | text z ls =>
    have few : ls.length ≤ 360 := Nat.le_trans (few_of w.1 w.2) hU
    have a : Sz 1 (360 * 7) (.tuple (ls.map .str)) := (strs_sz (fun x hx => ⟨s.2.2 x hx, c.2 x hx⟩) few).tup
    have b : Sz 1 200 (.str z) := (Sz.str c.1 s.1).mono (Nat.zero_le _) (Nat.le_refl _)
    exact ((SzA.cons (word_sz.1.mono (Nat.zero_le _) (Nat.le_refl _)) (SzA.cons b (SzA.cons a .nil))).tup).mono (Nat.le_refl _) (by decide)
  | failed n => exact ((SzA.cons word_sz.2.1 (SzA.cons (Sz.str c s) .nil)).tup).mono (by decide) (by decide)
  | long n => exact ((SzA.cons word_sz.2.2 (SzA.cons (Sz.str c s) .nil)).tup).mono (by decide) (by decide)
theorem Sz.shows {D M : Nat} {d : PyData} (s : Sz D M d) (h1 : D ≤ 40) (h2 : M ≤ 2 ^ 20) : Shows d := ⟨s.ok, s.nd, Nat.le_trans s.dep h1, s.fits h2⟩
theorem res_shows {R : Str → Res} {srcs : List (Str × Str)} {att : Int} (h : Renders R srcs att) (ok : SrcOk srcs) (names : ∀ p ∈ srcs, Codes p.1) (x : Str) : Sz 2 2731 (resD (R x)) := by
  have lim : (allLinks srcs).length ≤ 360 := by
    have := links_few (srcs := srcs) fun p hp => (ok.2.2 p hp).2.1
    have := ok.2.1
    omega
  obtain ⟨a, b, c⟩ := renders_fine h ok names x
  exact res_sz lim a b c
theorem deps_shows {R : Str → Res} {srcs : List (Str × Str)} {att : Int} (h : Renders R srcs att) (ok : SrcOk srcs) (names : ∀ p ∈ srcs, Codes p.1) (x : Str) : Shows (.list ((depsIn R srcs x).map depD)) := by
  unfold depsIn
  cases e : getS srcs x with
  | none => exact (Sz.shows (SzA.nil (D := 0)).lst (by decide) (by decide))
  | some t =>
    have t60 : t.length ≤ 60 := (ok.2.2 _ (get_some e)).2.1
    have l1 := depsN_len R x (segs nameB (aft x) t 0 0)
    have l2 := segs_few nameB (aft x) t t.length 0 0 rfl (Nat.zero_le _)
    have each : ∀ d ∈ (depsN R x (segs nameB (aft x) t 0 0)).map depD, Sz 3 2739 d := fun d hd => by
      obtain ⟨q, hq, rfl⟩ := List.mem_map.mp hd
      have nb := deps_name hq
      unfold depD
      rw [deps_is hq]
      exact ((SzA.cons ((Sz.str (name_codes nb) (name_len nb)).mono (Nat.zero_le _) (Nat.le_refl _)) (SzA.cons (res_shows h ok names q.1) .nil)).tup).mono (Nat.le_refl _) (by decide)
    exact Sz.shows (SzA.all (n := 363) each (by rw [List.length_map]; omega)).lst (by decide) (by decide)
end K07

namespace K07
open PySem PySem.Spec PyProof.Rows L2 Pg
/-! ### what a snapshot holds -/
def toldOf (tl : Tl) (x : Str) : List (Str × Option Res) := match getS tl x with
  | some p => p.2
  | none => []
def allK (l : List (Str × Option Res)) : Bool := l.all fun d => d.2.isSome
def SnapAt (K : PySem.W.Frag) (C : Addr) (H : Hp) (p : Addr) (pages : List Str) (tl : Tl) (R : Str → Option Res) : Prop :=
  ∃ (dx A T D : Addr) (rs : List (Str × V)), H p = some (.ins C dx [(("_pages" : Str), .ref A), (("_told" : Str), .ref T), (("_results" : Str), .ref D)]) ∧ SqT K H A (pages.map V.str) ∧ Told K H T tl ∧ RDict K H D rs R ∧ tl.length ≤ 100 ∧ ∀ n, R n = none → n ∈ tl.map (·.1)
theorem SnapAt.same {K : PySem.W.Frag} {C : Addr} {H H' : Hp} {p : Addr} {pages : List Str} {tl : Tl} {R : Str → Option Res} (s : Same H H') (h : SnapAt K C H p pages tl R) : SnapAt K C H' p pages tl R :=
  let ⟨dx, A, T, D, rs, h1, h2, h3, h4, h5⟩ := h; ⟨dx, A, T, D, rs, s _ _ h1, seqT_same s h2, h3.same s, h4.same s, h5⟩
def spAllKnown (K : PySem.W.Frag) : Sp := fun vs H Q _ => ∃ (p : Addr) (l : List (Str × Option Res)), vs = [.ref p] ∧ TDeps K H p l ∧ l.length ≤ 10000 ∧ ∀ H', Same H H' → Q (.bl (allK l)) H'
def spSKnown (K : PySem.W.Frag) (C : Addr) : Sp := fun vs H Q _ => ∃ (p : Addr) (pages : List Str) (tl : Tl) (R : Str → Option Res) (n : Str), vs = [.ref p, .str n] ∧ SnapAt K C H p pages tl R ∧ ∀ v, OV K H v (R n) → Q v H
def spSTold (K : PySem.W.Frag) (C : Addr) : Sp := fun vs H Q _ => ∃ (p : Addr) (pages : List Str) (tl : Tl) (R : Str → Option Res) (n : Str), vs = [.ref p, .str n] ∧ SnapAt K C H p pages tl R ∧
  ∀ (H' : Hp) (l : Addr), Same H H' → H l = none → TDeps K H' l (toldOf tl n) → Q (.ref l) H'
structure ReqOk (pages U : List Str) (tl : Tl) : Prop where
  few : pages.length ≤ 4000
  lim : U.length ≤ 4000
  pag : ∀ x ∈ pages, x ∈ U
  nam : ∀ x, ∀ y ∈ namesOf tl x, y ∈ U
  len : ∀ x, (namesOf tl x).length ≤ 300
def spSReq (K : PySem.W.Frag) (C : Addr) : Sp := fun vs H Q _ => ∃ (p : Addr) (pages U : List Str) (tl : Tl) (R : Str → Option Res), vs = [.ref p] ∧ SnapAt K C H p pages tl R ∧ ReqOk pages U tl ∧
  ∀ (H' : Hp) (l : Addr) (xs : List Str), Same H H' → H l = none → H' l = some (.lst (xs.map V.str)) → Rise xs → (∀ x, x ∈ xs ↔ Reach (namesOf tl) pages x) → Q (.ref l) H'
def spSRen (K : PySem.W.Frag) (C : Addr) : Sp := fun vs H Q _ => ∃ (p : Addr) (pages U : List Str) (tl : Tl) (R : Str → Option Res), vs = [.ref p] ∧ SnapAt K C H p pages tl R ∧ ReqOk pages U tl ∧
  ∀ (H' : Hp) (l : Addr) (xs : List Str), Same H H' → H l = none → Rise xs → (∀ x, x ∈ xs ↔ Reach (namesOf tl) pages x) → H' l = some (.lst ((xs.filter fun n => (R n).isNone && allK (toldOf tl n)).map V.str)) → Q (.ref l) H'
def spSReady (K : PySem.W.Frag) (C : Addr) : Sp := fun vs H Q _ => ∃ (p : Addr) (pages U : List Str) (tl : Tl) (R : Str → Option Res), vs = [.ref p] ∧ SnapAt K C H p pages tl R ∧ ReqOk pages U tl ∧
  ∀ (H' : Hp) (xs : List Str), Same H H' → Rise xs → (∀ x, x ∈ xs ↔ Reach (namesOf tl) pages x) → Q (.bl (xs.all fun n => (R n).isSome)) H'
theorem reach_in' {g : Str → List Str} {pages : List Str} {x : Str} (h : Reach g pages x) : x ∈ pages ∨ ∃ y, x ∈ g y := by
  cases h with
  | page h => exact .inl h
  | dep _ k => exact .inr ⟨_, k⟩
section
variable {P : Program} {w : World} {K : PySem.W.Frag} {mg : Str → Option Value} {base : Heap} {f nA : Addr} {fd : FuncData}
theorem ok_all_known (F : Fun K "_all_known" "_all_known" s_all_known f fd) (z : Z mg) : FnOk P w K mg base CX0 1 f fd ["found"] (spAllKnown K) := by
  refine F.ok sc_all_known (fun vs H Q E h => ?_) (fun cdv A outer s H vs Q E hr h => ?_)
  · obtain ⟨p, l, rfl, _⟩ := h
    rfl
  · obtain ⟨p, l, rfl, ⟨ts, hp, pr⟩, few, q⟩ := h
    refine ⟨_, (pss_one (ps_ret (pe_callB (cr_all rfl) (by rfl) z.all (by decide +kernel) (pa_cons (pe_lc (own := [("_", 1), ("outcome", 2)]) (g := (gTup K 2 (gCons (gName 1) (gCons (gName 2) gNil)))) (tt := tYes) rfl sc_all_known.nd (pi_list (pv 0)) (blkOk_by (own := [("_", 1), ("outcome", 2)]) (N := ["found", "_", "outcome"]) (sc := defScope s_all_known) (by decide +kernel)) (fun _ _ _ _ _ => (pg_tupK (K := K) rfl rfl (pgs_cons (pg_name (i := 1) sc_all_known.nd rfl (Or.inl rfl)) (pgs_cons (pg_name (i := 2) sc_all_known.nd rfl (Or.inl rfl)) pgs_nil)))) (fun _ _ _ _ _ => pts_nil) (fun _ _ _ _ _ => (pe_cmpR op_notN (pv 2) pe_non (nomark _)))) pa_nil)))), ?_⟩
    have lt := paired_len pr
    refine ⟨_, rfl, p, rfl, ⟨_, .inl (.inl hp)⟩, fun L nL => ?_⟩
    refine lc_list (K := K) (a := p) (xs := ts.map V.ref) (fun i H3 => Same H H3 ∧ H3 L = some (.lst ((l.take i).map fun d => V.bl d.2.isSome))) ⟨same_new nL, upd_same⟩ (fun i H3 _ h => .inl (.inl (h.1 _ _ hp))) ?_ ?_
    · rintro i y H3 hy ⟨s3, hL⟩
      obtain ⟨a, ha, rfl⟩ : ∃ a, ts[i]? = some a ∧ y = V.ref a := by
        rw [List.getElem?_map] at hy
        cases e : ts[i]? with
        | none => rw [e] at hy; cases hy
        | some a => rw [e] at hy; exact ⟨a, rfl, (Option.some.inj hy).symm⟩
      have hi : i < l.length := by rw [← lt]; exact (List.getElem?_eq_some_iff.mp ha).1
      have hl : l[i]? = some l[i] := List.getElem?_eq_getElem hi
      obtain ⟨a', ha', v, hv, ov⟩ := paired_at pr hl
      obtain rfl : a = a' := Option.some.inj (ha.symm.trans ha')
      generalize l[i] = d at *
      refine ⟨a, _, rfl, seqT_same s3 hv, rfl, _, _, rfl, _, _, rfl, rfl, rfl, yes ?_⟩
      refine iteT ?_
      have eb : (!decide (v = V.non)) = d.2.isSome := by
        cases e : d.2 with
        | none =>
          rw [e] at ov
          obtain rfl : v = .non := ov
          rfl
        | some r =>
          rw [e] at ov
          obtain ⟨t, rfl, _⟩ := ov
          rfl
      refine ⟨_, rfl, rfl, _, hL, by rw [List.length_map, List.length_take]; exact small5 (by omega), fun b o e => by rw [upd_ne (ne_of_none e nL)]; exact s3 _ _ e, ?_⟩
      rw [upd_same, List.take_add_one, hl, List.map_append, eb]
      rfl
    · rintro H3 ⟨s3, hL⟩
      rw [List.length_map, lt, List.take_length] at hL
      have := q H3 s3
      unfold allK at this
      refine ⟨L, l.map fun d => d.2.isSome, rfl, .inl (.inl (by rw [hL, List.map_map]; rfl)), ?_⟩
      rw [List.all_map]
      exact this
theorem ok_Snapshot_known (F : Fun K "known" "Snapshot.known" s_Snapshot_known f fd) (z : Z mg) (T : T_Snapshot K mg CSnapshot) (nt : Nothing K mg nA) : FnOk P w K mg base CX0 1 f fd ["self", "name"] (spSKnown K CSnapshot) := by
  refine F.ok sc_Snapshot_known (fun vs H Q E h => ?_) (fun cdv A outer s H vs Q E hr h => ?_)
  · obtain ⟨p, pages, tl, R, n, rfl, _⟩ := h
    rfl
  · obtain ⟨p, pages, tl, R, n, rfl, ⟨dx, A, T', D, rs, h1, h2, h3, h4, h5⟩, q⟩ := h
    refine ⟨_, (pss_one (ps_ret (pe_dget2 (hu_of hr) (pe_fld (pv 0) rfl) (pv 1) (pe_glob (v := V.ref nA) (by rfl) nt.glob rfl) ⟨by rfl, by rfl, by rfl, by rfl⟩))), ?_⟩
    obtain ⟨v, dg, gv, ov⟩ := h4.get nt n
    refine ⟨_, rfl, p, CSnapshot, dx, _, _, rfl, h1, T.cl, T.n_results, rfl, D, rfl, .inl ⟨_, .inl h4.at_⟩, _, rfl, _, dg, ?_⟩
    rw [gv]
    exact q v ov
theorem ok_Snapshot_told (F : Fun K "told" "Snapshot.told" s_Snapshot_told f fd) (z : Z mg) (T : T_Snapshot K mg CSnapshot) : FnOk P w K mg base CX0 1 f fd ["self", "name"] (spSTold K CSnapshot) := by
  refine F.ok sc_Snapshot_told (fun vs H Q E h => ?_) (fun cdv A outer s H vs Q E hr h => ?_)
  · obtain ⟨p, pages, tl, R, n, rfl, _⟩ := h
    rfl
  · obtain ⟨p, pages, tl, R, n, rfl, ⟨dx, A, T', D, rs, h1, h2, h3, h4, h5⟩, q⟩ := h
    refine ⟨_, (pss_one (ps_ret (pe_callTy call_list_of (by rfl) z.list (by decide +kernel) (pa_cons (pe_dget2 (hu_of hr) (pe_fld (pv 0) rfl) (pv 1) (pe_lst pa_nil) ⟨by rfl, by rfl, by rfl, by rfl⟩) pa_nil)))), ?_⟩
    refine ⟨_, rfl, p, CSnapshot, dx, _, _, rfl, h1, T.cl, T.n_told, rfl, T', rfl, .inl ⟨_, .inl h3.1⟩, _, rfl, Nat.zero_le _, fun e ne => ?_⟩
    have s1 := same_new (o := .lst []) ne
    have dg := DGet.k (k := Sum.inr n) (s1 _ _ h3.1)
    rw [valV_enc] at dg
    refine ⟨_, dg, ?_⟩
    unfold toldOf at q
    cases g : getS tl n with
    | none =>
      rw [g] at q
      refine ⟨e, _, rfl, .inl (.inl (.inl upd_same)), fun l nl => ?_⟩
      exact q _ l (s1.trans (same_new nl)) (by
        cases w : H l with
        | none => rfl
        | some v => rw [s1 _ _ w] at nl; cases nl) ⟨[], upd_same, .nil⟩
    | some d =>
      rw [g] at q
      obtain ⟨ts, ht, pr⟩ := (h3.2 _ (get_some g)).same s1
      refine ⟨d.1, _, rfl, .inl (.inl (.inl ht)), fun l nl => ?_⟩
      exact q _ l (s1.trans (same_new nl)) (by
        cases w : H l with
        | none => rfl
        | some v => rw [s1 _ _ w] at nl; cases nl) ⟨ts, upd_same, Paired.mapP pr fun _ _ x => x.same (same_new nl)⟩
theorem ok_Snapshot_required (F : Fun K "required" "Snapshot.required" s_Snapshot_required f fd) (z : Z mg) (T : T_Snapshot K mg CSnapshot) (call_required : Cal P w K mg base "all_required" 1 ["pages", "told"] (spAllReq K)) :
    FnOk P w K mg base CX0 2 f fd ["self"] (spSReq K CSnapshot) := by
  refine F.ok sc_Snapshot_required (fun vs H Q E h => ?_) (fun cdv A outer s H vs Q E hr h => ?_)
  · obtain ⟨p, pages, U, tl, R, rfl, _⟩ := h
    rfl
  · obtain ⟨p, pages, U, tl, R, rfl, ⟨dx, A, T', D, rs, h1, h2, h3, h4, h5⟩, ro, q⟩ := h
    refine ⟨_, (pss_one (ps_ret (pe_cal call_required (hr.mono (by decide)) (by rfl) (pa_cons (pe_fld (pv 0) rfl) (pa_cons (pe_fld (pv 0) rfl) pa_nil))))), ?_⟩
    refine ⟨_, rfl, p, CSnapshot, dx, _, _, rfl, h1, T.cl, T.n_pages, rfl, _, rfl, p, CSnapshot, dx, _, _, rfl, h1, T.cl, T.n_told, rfl, A, T', pages, U, tl, rfl, .inr h2, h3, ro.few, ro.lim, ro.pag, ro.nam, ro.len, ?_⟩
    exact q
theorem ok_Snapshot_renderable (F : Fun K "renderable" "Snapshot.renderable" s_Snapshot_renderable f fd) (z : Z mg) (T : T_Snapshot K mg CSnapshot) (call_known : Cal P w K mg base "_all_known" 1 ["found"] (spAllKnown K))
    (cSnapshot_required : CalM P w K mg base CSnapshot "required" 2 ["self"] (spSReq K CSnapshot)) (cSnapshot_known : CalM P w K mg base CSnapshot "known" 1 ["self", "name"] (spSKnown K CSnapshot)) :
    FnOk P w K mg base CX0 3 f fd ["self"] (spSRen K CSnapshot) := by
  refine F.ok sc_Snapshot_renderable (fun vs H Q E h => ?_) (fun cdv A outer s H vs Q E hr h => ?_)
  · obtain ⟨p, pages, U, tl, R, rfl, _⟩ := h
    rfl
  · obtain ⟨p, pages, U, tl, R, rfl, sn, ro, q⟩ := h
    refine ⟨_, (pss_one (ps_ret (pe_lc (own := [("name", 1)]) (g := (gName 1)) rfl sc_Snapshot_renderable.nd (pi_list (pe_calM0 cSnapshot_required (hr.mono (by decide)) (pv 0))) (blkOk_by (own := [("name", 1)]) (N := ["self", "name"]) (sc := defScope s_Snapshot_renderable) (by decide +kernel)) (fun _ _ _ _ _ => pg_name (i := 1) sc_Snapshot_renderable.nd rfl (Or.inl rfl)) (fun _ _ _ _ _ => (pts_and2 (pt_cmpR op_isN (pe_calM cSnapshot_known (hr.mono (by decide)) (pv 0) (pa_cons (pv 1) pa_nil)) pe_non (nomark _)) (pt_val (pe_cal call_known (hr.mono (by decide)) (by rfl) (pa_cons (pe_dget (hu_of hr) (pe_fldK (K := K) rfl (pv 0) rfl) (pv 1) (fun _ _ => rfl)) pa_nil))))) (fun _ _ _ _ _ => (pv 1))))), ?_⟩
    obtain ⟨dx, A, T', D, rs, h1, h2, h3, h4, h5⟩ := id sn
    refine ⟨_, rfl, p, dx, _, rfl, h1, rfl, p, pages, U, tl, R, rfl, sn, ro, fun H1 l xs s1 nl hl rise mem => ?_⟩
    have lxs : xs.length ≤ 4000 := Nat.le_trans (few_of (rise_nodup rise) fun x hx => by
      rcases reach_in' ((mem x).mp hx) with h | ⟨y, h⟩
      · exact ro.pag x h
      · exact ro.nam y x h) ro.lim
    refine ⟨l, rfl, ⟨_, .inl (.inl hl)⟩, fun M nM => ?_⟩
    refine lc_list (K := K) (a := l) (xs := xs.map V.str) (fun i H3 => Same H1 H3 ∧ H3 M = some (.lst (((xs.take i).filter fun n => (R n).isNone && allK (toldOf tl n)).map V.str))) ⟨same_new nM, upd_same⟩ (fun i H3 _ h => .inl (.inl (h.1 _ _ hl))) ?_ ?_
    · rintro i y H3 hy ⟨s3, hM⟩
      obtain ⟨x, hx, rfl⟩ : ∃ x, xs[i]? = some x ∧ y = V.str x := by
        rw [List.getElem?_map] at hy
        cases e : xs[i]? with
        | none => rw [e] at hy; cases hy
        | some x => rw [e] at hy; exact ⟨x, rfl, (Option.some.inj hy).symm⟩
      have tk : ((xs.take (i + 1)).filter fun n => (R n).isNone && allK (toldOf tl n)) = ((xs.take i).filter fun n => (R n).isNone && allK (toldOf tl n)) ++ if ((R x).isNone && allK (toldOf tl x)) = true then [x] else [] := by
        rw [List.take_add_one, hx, List.filter_append]
        congr 1
        show List.filter _ [x] = _
        rw [List.filter_cons]
        rfl
      have l1 : ((xs.take i).filter fun n => (R n).isNone && allK (toldOf tl n)).length ≤ xs.length := Nat.le_trans (List.length_filter_le _ _) (by rw [List.length_take]; omega)
      have s13 := s1.trans s3
      refine ⟨rfl, _, rfl, p, dx, _, rfl, s13 _ _ h1, rfl, _, rfl, p, pages, tl, R, x, rfl, sn.same s13, fun v ov => ?_⟩
      cases e : R x with
      | some r =>
        rw [e] at ov
        obtain ⟨t, rfl, _⟩ := ov
        refine ⟨rfl, _, rfl, iteF (iteF ⟨s3, ?_⟩)⟩
        rw [tk, e]
        show H3 M = some (.lst ((_ ++ if (false && allK (toldOf tl x)) = true then [x] else []).map V.str))
        rw [Bool.false_and, if_neg (by decide), List.append_nil]
        exact hM
      | none =>
        rw [e] at ov
        obtain rfl : v = .non := ov
        refine ⟨rfl, _, rfl, iteT ?_⟩
        have inT := h5.2 x e
        have dg := DGet.k (k := Sum.inr x) (s13 _ _ h3.1)
        rw [valV_enc] at dg
        have len := ro.len x
        unfold namesOf at len
        cases g : getS tl x with
        | none => exact absurd inT (get_none.mp g)
        | some d =>
          rw [g] at dg len
          have td := (h3.same s13).2 _ (get_some g)
          have told : toldOf tl x = d.2 := by unfold toldOf; rw [g]
          have len : (d.2.map Prod.fst).length ≤ 300 := len
          rw [List.length_map] at len
          refine ⟨_, rfl, p, CSnapshot, dx, _, _, rfl, s13 _ _ h1, T.cl, T.n_told, rfl, _, rfl, T', .ref d.1, rfl, dg, d.1, d.2, rfl, td, by omega, fun H4 s4 => ⟨_, rfl, ?_⟩⟩
          cases e2 : allK d.2 with
          | false =>
            refine iteF ⟨s3.trans s4, ?_⟩
            rw [tk, e, told, e2]
            show H4 M = some (.lst ((_ ++ if (true && false) = true then [x] else []).map V.str))
            rw [Bool.and_false, if_neg (by decide), List.append_nil]
            exact s4 _ _ hM
          | true =>
            refine iteT ⟨_, rfl, _, s4 _ _ hM, by rw [List.length_map]; exact small5 (by omega), fun b o e => by rw [upd_ne (ne_of_none e nM)]; exact s4 _ _ (s3 _ _ e), ?_⟩
            rw [upd_same, tk, e, told, e2]
            show some (HO.lst (_ ++ [V.str x])) = some (.lst ((_ ++ if (true && true) = true then [x] else []).map V.str))
            rw [Bool.and_true, if_pos rfl, List.map_append]
            rfl
    · rintro H3 ⟨s3, hM⟩
      rw [List.length_map, List.take_length] at hM
      refine q H3 M xs (s1.trans s3) ?_ rise mem hM
      cases w : H M with
      | none => rfl
      | some v => rw [s1 _ _ w] at nM; cases nM
theorem ok_Snapshot_is_ready (F : Fun K "is_ready" "Snapshot.is_ready" s_Snapshot_is_ready f fd) (z : Z mg) (T : T_Snapshot K mg CSnapshot)
    (cSnapshot_required : CalM P w K mg base CSnapshot "required" 2 ["self"] (spSReq K CSnapshot)) (cSnapshot_known : CalM P w K mg base CSnapshot "known" 1 ["self", "name"] (spSKnown K CSnapshot)) :
    FnOk P w K mg base CX0 3 f fd ["self"] (spSReady K CSnapshot) := by
  refine F.ok sc_Snapshot_is_ready (fun vs H Q E h => ?_) (fun cdv A outer s H vs Q E hr h => ?_)
  · obtain ⟨p, pages, U, tl, R, rfl, _⟩ := h
    rfl
  · obtain ⟨p, pages, U, tl, R, rfl, sn, ro, q⟩ := h
    refine ⟨_, (pss_one (ps_ret (pe_callB (cr_all rfl) (by rfl) z.all (by decide +kernel) (pa_cons (pe_lc (own := [("name", 1)]) (g := (gName 1)) (tt := tYes) rfl sc_Snapshot_is_ready.nd (pi_list (pe_calM0 cSnapshot_required (hr.mono (by decide)) (pv 0))) (blkOk_by (own := [("name", 1)]) (N := ["self", "name"]) (sc := defScope s_Snapshot_is_ready) (by decide +kernel)) (fun _ _ _ _ _ => pg_name (i := 1) sc_Snapshot_is_ready.nd rfl (Or.inl rfl)) (fun _ _ _ _ _ => pts_nil) (fun _ _ _ _ _ => (pe_cmpR op_notN (pe_calM cSnapshot_known (hr.mono (by decide)) (pv 0) (pa_cons (pv 1) pa_nil)) pe_non (nomark _)))) pa_nil)))), ?_⟩
    obtain ⟨dx, A, T', D, rs, h1, h2, h3, h4, h5⟩ := id sn
    refine ⟨_, rfl, p, dx, _, rfl, h1, rfl, p, pages, U, tl, R, rfl, sn, ro, fun H1 l xs s1 nl hl rise mem => ?_⟩
    have lxs : xs.length ≤ 4000 := Nat.le_trans (few_of (rise_nodup rise) fun x hx => by
      rcases reach_in' ((mem x).mp hx) with h | ⟨y, h⟩
      · exact ro.pag x h
      · exact ro.nam y x h) ro.lim
    refine ⟨l, rfl, ⟨_, .inl (.inl hl)⟩, fun M nM => ?_⟩
    refine lc_list (K := K) (a := l) (xs := xs.map V.str) (fun i H3 => Same H1 H3 ∧ H3 M = some (.lst ((xs.take i).map fun n => V.bl (R n).isSome))) ⟨same_new nM, upd_same⟩ (fun i H3 _ h => .inl (.inl (h.1 _ _ hl))) ?_ ?_
    · rintro i y H3 hy ⟨s3, hM⟩
      obtain ⟨x, hx, rfl⟩ : ∃ x, xs[i]? = some x ∧ y = V.str x := by
        rw [List.getElem?_map] at hy
        cases e : xs[i]? with
        | none => rw [e] at hy; cases hy
        | some x => rw [e] at hy; exact ⟨x, rfl, (Option.some.inj hy).symm⟩
      have s13 := s1.trans s3
      refine ⟨rfl, yes ?_⟩
      refine iteT ?_
      refine ⟨_, rfl, p, dx, _, rfl, s13 _ _ h1, rfl, _, rfl, p, pages, tl, R, x, rfl, sn.same s13, fun v ov => ?_⟩
      have eb : (!decide (v = V.non)) = (R x).isSome := by
        cases e : R x with
        | none =>
          rw [e] at ov
          obtain rfl : v = .non := ov
          rfl
        | some r =>
          rw [e] at ov
          obtain ⟨t, rfl, _⟩ := ov
          rfl
      refine ⟨rfl, _, hM, by rw [List.length_map, List.length_take]; exact small5 (by omega), fun b o e => by rw [upd_ne (ne_of_none e nM)]; exact s3 _ _ e, ?_⟩
      rw [upd_same, List.take_add_one, hx, List.map_append, eb]
      rfl
    · rintro H3 ⟨s3, hM⟩
      rw [List.length_map, List.take_length] at hM
      have := q H3 xs (s1.trans s3) rise mem
      refine ⟨M, xs.map fun n => (R n).isSome, rfl, .inl (.inl (by rw [hM, List.map_map]; rfl)), ?_⟩
      rw [List.all_map]
      exact this
end
end K07

namespace K07
open PySem PySem.Spec PyProof.Rows L2 Pg
/-! ### what is known from a cache -/
def Rok (r : Res) : Prop := r.small ∧ RCodes r
theorem rok_nothing : Rok nothing := ⟨⟨by decide +kernel, by decide, by intro x hx; cases hx⟩, q_codes.1, by intro x hx; cases hx⟩
theorem res_pd {r : Res} (h : Rok r) : Pd 2 14300 (resD r) := by
  cases r with
  | text c ls =>
    obtain ⟨⟨h1, h2, h3⟩, h4, h5⟩ := h
    have a : Pd 1 (2000 * 7) (.tuple (ls.map .str)) := (PdA.all (M := 6) (n := 2000) (fun d hd => by
      obtain ⟨x, hx, rfl⟩ := List.mem_map.mp hd
      exact Pd.str (h5 x hx) (h3 x hx)) (by rw [List.length_map]; exact h2)).tup
    have b : Pd 1 200 (.str c) := (Pd.str h4 h1).mono (Nat.zero_le _) (Nat.le_refl _)
    have k : Pd 1 8 (.str "text") := (Pd.str (lit_codes (by decide +kernel)) (by decide +kernel)).mono (Nat.zero_le _) (Nat.le_refl _)
    exact ((PdA.cons k (PdA.cons b (PdA.cons a .nil))).tup).mono (Nat.le_refl _) (by decide)
  | failed n => exact ((PdA.cons (Pd.str (M := 8) (lit_codes (by decide +kernel)) (by decide +kernel)) (PdA.cons (Pd.str h.2 h.1) .nil)).tup).mono (by decide) (by decide)
  | long n => exact ((PdA.cons (Pd.str (M := 8) (lit_codes (by decide +kernel)) (by decide +kernel)) (PdA.cons (Pd.str h.2 h.1) .nil)).tup).mono (by decide) (by decide)
theorem dpAll_strs {K : PySem.W.Frag} {H : Hp} : ∀ {xs : List Str} {vs : List V}, DpAll K H vs (xs.map PyData.str) → vs = xs.map V.str
  | [], vs, h => by cases h; rfl
  | x :: r, vs, h => by
    cases h with
    | cons a b =>
      cases a
      rw [dpAll_strs b]
      rfl
/-- what reads as a result, is one -/
theorem dp_res {K : PySem.W.Frag} {H : Hp} {v : V} {r : Res} (h : Dp K H v (resD r)) : ∃ t, v = .ref t ∧ ResAt K H t r := by
  cases r with
  | text c ls =>
    cases h with
    | tup hs ha =>
      cases ha with
      | cons a1 ha =>
        cases ha with
        | cons a2 ha =>
          cases ha with
          | cons a3 ha =>
            cases ha
            cases a1
            cases a2
            cases a3 with
            | tup hl hb => exact ⟨_, rfl, _, hs, by rw [dpAll_strs hb] at hl; exact hl⟩
  | failed n =>
    cases h with
    | tup hs ha =>
      cases ha with
      | cons a1 ha =>
        cases ha with
        | cons a2 ha =>
          cases ha
          cases a1
          cases a2
          exact ⟨_, rfl, hs⟩
  | long n =>
    cases h with
    | tup hs ha =>
      cases ha with
      | cons a1 ha =>
        cases ha with
        | cons a2 ha =>
          cases ha
          cases a1
          cases a2
          exact ⟨_, rfl, hs⟩
/-- a result that is known, or none, as data -/
def OD (d : PyData) : Option Res → Prop
  | none => d = .none
  | some r => d = resD r ∧ Rok r
theorem od_ov {K : PySem.W.Frag} {H : Hp} {v : V} {d : PyData} {o : Option Res} (h : Dp K H v d) (e : OD d o) : OV K H v o := by
  cases o with
  | none =>
    have e : d = .none := e
    rw [e] at h
    cases h
    rfl
  | some r =>
    rw [e.1] at h
    exact dp_res h
def depO (d : Str × Option Res) : PyData := .tuple [.str d.1, resD (d.2.getD nothing)]
/-- the dependencies, all of them known, as data -/
theorem tdeps_lat {K : PySem.W.Frag} {H : Hp} {p : Addr} {l : List (Str × Option Res)} (h : TDeps K H p l) (k : allK l = true) : LAt K H p (l.map depO) := by
  obtain ⟨ts, h1, h2⟩ := h
  refine ⟨_, h1, ?_⟩
  clear h1
  induction h2 with
  | nil => exact .nil
  | cons a b ih =>
    obtain ⟨v, h3, h4⟩ := a
    unfold allK at k ih
    rw [List.all_cons, Bool.and_eq_true] at k
    rename_i x y _ _
    refine .cons (.tup h3 (.cons (.str _) (.cons ?_ .nil))) (ih k.2)
    have k1 := k.1
    revert h4 k1
    cases y.2 with
    | none =>
      intro _ k1
      cases k1
    | some r =>
      intro h4 _
      obtain ⟨t, rfl, h⟩ := h4
      exact res_dp h
theorem told_pd {l : List (Str × Option Res)} (k : allK l = true) (few : l.length ≤ 250) (ok : ∀ d ∈ l, (d.1.length ≤ 6 ∧ Codes d.1) ∧ ∀ r, d.2 = some r → Rok r) : PdA 3 (250 * 14400) (l.map depO) := by
  refine PdA.all (fun d hd => ?_) (by rw [List.length_map]; exact few)
  obtain ⟨q, hq, rfl⟩ := List.mem_map.mp hd
  obtain ⟨⟨h1, h2⟩, h3⟩ := ok q hq
  have r : Rok (q.2.getD nothing) := by
    cases e : q.2 with
    | none => exact rok_nothing
    | some r => exact h3 r e
  exact ((PdA.cons ((Pd.str h2 h1).mono (Nat.zero_le _) (Nat.le_refl _)) (PdA.cons (res_pd r) .nil)).tup).mono (Nat.le_refl _) (by decide)
/-- what a cache that holds cs tells of sources -/
structure Knows (cs : List (Str × List Row)) (srcs : List (Str × Str)) (R : Str → Option Res) : Prop where
  no : ∀ n, getS srcs n = none → R n = some nothing
  has : ∀ n t, getS srcs n = some t → (allK (toldN R n (segs nameB (aft n) t 0 0)) = false ∧ R n = none) ∨
    (allK (toldN R n (segs nameB (aft n) t 0 0)) = true ∧ OD (findC (rowsC cs n) t ((toldN R n (segs nameB (aft n) t 0 0)).map depO)) (R n))
/-- the rows of a cache have results -/
def RowsRes (cs : List (Str × List Row)) : Prop := ∀ k, ∀ x ∈ rowsC cs k, ∃ r, x.r = resD r ∧ Rok r
theorem find_od {cs : List (Str × List Row)} (h : RowsRes cs) (k t : Str) (fs : List PyData) : ∃ o, OD (findC (rowsC cs k) t fs) o := by
  unfold findC
  cases e : (rowsC cs k).find? fun y => PyData.eqv (.tuple [.str y.t, .tuple y.fs]) (.tuple [.str t, .tuple fs]) with
  | none => exact ⟨none, rfl⟩
  | some x =>
    obtain ⟨r, h1, h2⟩ := h k x (List.mem_of_find?_eq_some e)
    exact ⟨some r, h1, h2⟩
theorem toldN_congr {R R' : Str → Option Res} {nm : Str} (e : ∀ n, aft nm n = true → R n = R' n) : ∀ {l : List Seg}, (∀ s ∈ l, s.1 = "text" ∨ (s.1 = "link" ∧ nameB s.2 = true) ∨ ((s.1 = "include" ∨ s.1 = "indirect") ∧ nameB s.2 = true ∧ aft nm s.2 = true)) → toldN R nm l = toldN R' nm l
  | [], _ => rfl
  | s :: l, h => by
    have ih := toldN_congr e (l := l) fun x hx => h x (List.mem_cons_of_mem _ hx)
    have e1 : ∀ R : Str → Option Res, toldN R nm (s :: l) = told1 R nm s ++ toldN R nm l := fun R => by unfold toldN; rw [List.flatMap_cons]
    rw [e1, e1, ih]
    congr 1
    have hs := h s List.mem_cons_self
    unfold told1
    by_cases k1 : s.1 = "include"
    · rw [if_pos k1, if_pos k1]
      have : aft nm s.2 = true := by
        rcases hs with a | ⟨a, _⟩ | ⟨_, _, a⟩
        · rw [k1] at a; exact absurd a k_it
        · rw [k1] at a; exact absurd a k_il
        · exact a
      rw [e _ this]
    · rw [if_neg k1, if_neg k1]
      by_cases k2 : s.1 = "indirect"
      · rw [if_pos k2, if_pos k2]
        have : aft nm s.2 = true := by
          rcases hs with a | ⟨a, _⟩ | ⟨_, _, a⟩
          · rw [k2] at a; exact absurd a k_dt
          · rw [k2] at a; exact absurd a k_dl
          · exact a
        rw [e _ this]
        cases hR : (R' s.2).bind (leads nm) with
        | none => rfl
        | some c =>
          have ac : aft nm c = true := by
            cases g : R' s.2 with
            | none => rw [g] at hR; cases hR
            | some r => rw [g] at hR; exact leads_aft hR
          show _ :: [(c, R c)] = _ :: [(c, R' c)]
          rw [e c ac]
      · rw [if_neg k2, if_neg k2]
theorem resD_inj : ∀ {r r' : Res}, resD r = resD r' → r = r' := by
  intro r r' h
  have k1 : ¬ (PyData.str "text" = PyData.str "failed") := fun h => by
    injection h with h
    exact absurd h (by decide +kernel)
  have k2 : ¬ (PyData.str "text" = PyData.str "long") := fun h => by
    injection h with h
    exact absurd h (by decide +kernel)
  have k3 : ¬ (PyData.str "failed" = PyData.str "long") := fun h => by
    injection h with h
    exact absurd h (by decide +kernel)
  cases r with
  | text c ls =>
    cases r' with
    | text c' ls' =>
      have h : PyData.tuple [.str "text", .str c, .tuple (ls.map .str)] = .tuple [.str "text", .str c', .tuple (ls'.map .str)] := h
      injection h with h
      injection h with _ h
      injection h with h1 h
      injection h with h2 _
      injection h1 with h1
      injection h2 with h2
      rw [h1, (List.map_inj_right (fun a b e => by injection e)).mp h2]
    | failed n => 
      have h : PyData.tuple [.str "text", .str c, .tuple (ls.map .str)] = .tuple [.str "failed", .str n] := h
      injection h with h
      injection h with h _
      exact absurd h k1
    | long n =>
      have h : PyData.tuple [.str "text", .str c, .tuple (ls.map .str)] = .tuple [.str "long", .str n] := h
      injection h with h
      injection h with h _
      exact absurd h k2
  | failed m =>
    cases r' with
    | text c ls =>
      have h : PyData.tuple [.str "failed", .str m] = .tuple [.str "text", .str c, .tuple (ls.map .str)] := h
      injection h with h
      injection h with h _
      exact absurd h.symm k1
    | failed n =>
      have h : PyData.tuple [.str "failed", .str m] = .tuple [.str "failed", .str n] := h
      injection h with h
      injection h with _ h
      injection h with h _
      injection h with h
      rw [h]
    | long n =>
      have h : PyData.tuple [.str "failed", .str m] = .tuple [.str "long", .str n] := h
      injection h with h
      injection h with h _
      exact absurd h k3
  | long m =>
    cases r' with
    | text c ls =>
      have h : PyData.tuple [.str "long", .str m] = .tuple [.str "text", .str c, .tuple (ls.map .str)] := h
      injection h with h
      injection h with h _
      exact absurd h.symm k2
    | failed n =>
      have h : PyData.tuple [.str "long", .str m] = .tuple [.str "failed", .str n] := h
      injection h with h
      injection h with h _
      exact absurd h.symm k3
    | long n =>
      have h : PyData.tuple [.str "long", .str m] = .tuple [.str "long", .str n] := h
      injection h with h
      injection h with _ h
      injection h with h _
      injection h with h
      rw [h]
/-- what is known, is one -/
theorem knows_one {cs : List (Str × List Row)} {srcs : List (Str × Str)} {R R' : Str → Option Res} (h : Knows cs srcs R) (h' : Knows cs srcs R') : ∀ x, R x = R' x := by
  have main : ∀ (m : Nat) (x : Str), rest srcs x < m → R x = R' x := by
    intro m
    induction m with
    | zero => intro x hx; omega
    | succ m ih =>
      intro x hx
      cases e : getS srcs x with
      | none => rw [h.no x e, h'.no x e]
      | some t =>
        have aftx := segs_after nameB (aft x) t t.length 0 0 rfl (Nat.zero_le _)
        have same : toldN R x (segs nameB (aft x) t 0 0) = toldN R' x (segs nameB (aft x) t 0 0) := toldN_congr (fun n hn => by
          rw [aft_ahead] at hn
          cases e2 : getS srcs n with
          | none => rw [h.no n e2, h'.no n e2]
          | some t2 =>
            have := rest_lt e2 hn
            exact ih n (by omega)) aftx
        rcases h.has x t e with ⟨a1, a2⟩ | ⟨a1, a2⟩ <;> rcases h'.has x t e with ⟨b1, b2⟩ | ⟨b1, b2⟩
        · rw [a2, b2]
        · rw [same, b1] at a1; cases a1
        · rw [same, b1] at a1; cases a1
        · rw [same] at a2
          generalize findC (rowsC cs x) t ((toldN R' x (segs nameB (aft x) t 0 0)).map depO) = d at *
          revert a2 b2
          cases R x with
          | none =>
            cases R' x with
            | none =>
              intro _ _
              rfl
            | some r =>
              intro a b
              have a : d = .none := a
              rw [a] at b
              have c := b.1
              cases r <;> cases c
          | some r =>
            cases R' x with
            | none =>
              intro a b
              have b : d = .none := b
              rw [b] at a
              have c := a.1
              cases r <;> cases c
            | some r' =>
              intro a b
              rw [resD_inj (a.1.symm.trans b.1)]
  exact fun x => main _ x (Nat.lt_succ_self _)
end K07

namespace K07
open PySem PySem.Spec PyProof.Rows L2 Pg
/-- a snapshot whose dicts are new -/
def SnapN (K : PySem.W.Frag) (C : Addr) (H0 H : Hp) (p : Addr) (pages : List Str) (tl : Tl) (R : Str → Option Res) : Prop :=
  ∃ (dx A T D : Addr) (rs : List (Str × V)), H p = some (.ins C dx [(("_pages" : Str), .ref A), (("_told" : Str), .ref T), (("_results" : Str), .ref D)]) ∧ SqT K H A (pages.map V.str) ∧ Told K H T tl ∧ RDict K H D rs R ∧ tl.length ≤ 100 ∧ (∀ n, R n = none → n ∈ tl.map (·.1)) ∧ H0 T = none ∧ H0 D = none
def spSInit (K : PySem.W.Frag) (C C2 : Addr) : Sp := fun vs H Q _ => ∃ (p S A c dc dx : Addr) (srcs : List (Str × Str)) (pages : List Str) (att : Int) (cs : List (Str × List Row)), vs = [.ref p, .ref S, .ref A, .int att, .ref c] ∧ H p = some (.ins C dx []) ∧ DictS H S srcs ∧ SrcOk srcs ∧
  SqT K H A (pages.map V.str) ∧ CAt K C2 H c dc cs ∧ RowsRes cs ∧ ∀ (H' : Hp) (tl : Tl) (R : Str → Option Res), (∀ b o, b ≠ p → H b = some o → H' b = some o) → SnapN K C H H' p pages tl R → Knows cs srcs R → (∀ n, toldOf tl n = match getS srcs n with | some t => toldN R n (segs nameB (aft n) t 0 0) | none => []) → Q .non H'
theorem ov_updD {K : PySem.W.Frag} {H : Hp} {v : V} {p : Addr} {kv : List (Key × V)} {o : HO} {r : Option Res} (hp : H p = some (.dK kv)) (h : OV K H v r) : OV K (upd H p o) v r := by
  cases r with
  | none => exact h
  | some r => exact let ⟨t, e, h⟩ := h; ⟨t, e, resAt_updD hp h⟩
theorem RDict.put {K : PySem.W.Frag} {H : Hp} {D : Addr} {rs : List (Str × V)} {R : Str → Option Res} {x : Str} {v : V} {o : Option Res} (d : RDict K H D rs R) (ov : OV K H v o) (sm : ∀ r, o = some r → r.small) :
    RDict K (upd H D (.dK (enc id (putS rs x v)))) D (putS rs x v) (fun n => if n = x then o else R n) := by
  refine ⟨upd_same, fun n w e => ?_, fun n e => ?_, fun n r e => ?_⟩
  · rw [get_put] at e
    by_cases h : n = x
    · rw [if_pos h] at e
      show OV K _ w (if n = x then o else R n)
      rw [if_pos h, ← Option.some.inj e]
      exact ov_updD d.at_ ov
    · rw [if_neg h] at e
      show OV K _ w (if n = x then o else R n)
      rw [if_neg h]
      exact ov_updD d.at_ (d.has n w e)
  · rw [get_put] at e
    by_cases h : n = x
    · rw [if_pos h] at e; cases e
    · rw [if_neg h] at e
      show (if n = x then o else R n) = some nothing
      rw [if_neg h]
      exact d.no n e
  · have e : (if n = x then o else R n) = some r := e
    by_cases h : n = x
    · rw [if_pos h] at e; exact sm r e
    · rw [if_neg h] at e; exact d.small n r e
theorem RDict.off {K : PySem.W.Frag} {H : Hp} {D T : Addr} {rs : List (Str × V)} {R : Str → Option Res} {kv : List (Key × V)} {o : HO} (d : RDict K H D rs R) (hT : H T = some (.dK kv)) (n : D ≠ T) : RDict K (upd H T o) D rs R :=
  ⟨by rw [upd_ne n]; exact d.at_, fun n w e => ov_updD hT (d.has n w e), d.no, d.small⟩
theorem Told.put {K : PySem.W.Frag} {H : Hp} {T F : Addr} {tl : Tl} {x : Str} {l : List (Str × Option Res)} (t : Told K H T tl) (h : TDeps K H F l) : Told K (upd H T (.dK (enc (fun p => V.ref p.1) (putS tl x (F, l))))) T (putS tl x (F, l)) := by
  refine ⟨upd_same, fun p hp => ?_⟩
  rcases mem_put hp with e | e
  · rw [e]; exact tdeps_upd t.1 h
  · exact tdeps_upd t.1 (t.2 p e)
theorem Told.off {K : PySem.W.Frag} {H : Hp} {T D : Addr} {tl : Tl} {kv : List (Key × V)} {o : HO} (t : Told K H T tl) (hD : H D = some (.dK kv)) (n : T ≠ D) : Told K (upd H D o) T tl := ⟨by rw [upd_ne n]; exact t.1, fun p hp => tdeps_upd hD (t.2 p hp)⟩
theorem told_put {tl : Tl} {x n : Str} {F : Addr} {l : List (Str × Option Res)} : toldOf (putS tl x (F, l)) n = if n = x then l else toldOf tl n := by
  unfold toldOf
  rw [get_put]
  by_cases h : n = x
  · rw [if_pos h, if_pos h]
  · rw [if_neg h, if_neg h]
/-- all but one instance without fields is as it was -/
theorem CAt.off {K : PySem.W.Frag} {C C' : Addr} {H H' : Hp} {p c d dx : Addr} {cs : List (Str × List Row)} (ca : CAt K C H c d cs) (hp : H p = some (.ins C' dx [])) (kp : ∀ b o, b ≠ p → H b = some o → H' b = some o) : CAt K C H' c d cs := by
  obtain ⟨dx', kvs, h1, h2, h3, h4, h5⟩ := ca
  refine ⟨dx', kvs, kp _ _ (ne_of h1 hp (by intro z; cases z)) h1, kp _ _ (ne_of h2 hp (by intro z; cases z)) h2, h3.keep h4 (fun a xs h => ?_) (fun a ha o e => ?_), h4, h5⟩
  · rcases h with (h | ⟨u, h⟩) | h
    · exact .inl (.inl (kp _ _ (ne_of h hp (by intro z; cases z)) h))
    · exact .inl (.inr ⟨u, kp _ _ (ne_of h hp (by intro z; cases z)) h⟩)
    · exact .inr h
  · refine kp _ _ ?_ e
    rintro rfl
    obtain ⟨i, hi⟩ := List.getElem?_of_mem ha
    obtain ⟨b, _, _, vs, hl, _⟩ := RowsAt.at_ h3 hi
    rw [hp] at hl
    cases hl
theorem told_named (R : Str → Option Res) (nm t : Str) : ∀ d ∈ toldN R nm (segs nameB (aft nm) t 0 0), nameB d.1 = true ∧ d.2 = R d.1 := by
  intro d h
  unfold toldN at h
  obtain ⟨s, hs, h⟩ := List.mem_flatMap.mp h
  have a := segs_after nameB (aft nm) t t.length 0 0 rfl (Nat.zero_le _) s hs
  unfold told1 at h
  split at h
  · rename_i e
    rw [List.mem_singleton.mp h]
    refine ⟨?_, rfl⟩
    rcases a with a | ⟨_, a⟩ | ⟨_, a, _⟩
    · rw [e] at a; exact absurd a k_it
    · exact a
    · exact a
  · split at h
    · rename_i e
      rcases List.mem_cons.mp h with h | h
      · rw [h]
        refine ⟨?_, rfl⟩
        rcases a with a | ⟨_, a⟩ | ⟨_, a, _⟩
        · rw [e] at a; exact absurd a k_dt
        · exact a
        · exact a
      · split at h
        · rename_i c hl
          rw [List.mem_singleton.mp h]
          refine ⟨?_, rfl⟩
          cases hR : R s.2 with
          | none => rw [hR] at hl; cases hl
          | some r =>
            rw [hR] at hl
            cases r with
            | text d ms =>
              have hl : (if nameB d = true ∧ aft nm d = true then some d else none) = some c := hl
              split at hl
              · rename_i q
                rw [← Option.some.inj hl]
                exact q.1
              · cases hl
            | failed n => cases hl
            | long n => cases hl
        · cases h
    · cases h
section
variable {P : Program} {w : World} {K : PySem.W.Frag} {mg : Str → Option Value} {base : Heap} {f nA : Addr} {fd : FuncData}
theorem ok_Snapshot_init (F : Fun K "__init__" "Snapshot.__init__" s_Snapshot_init f fd) (z : Z mg) (T : T_Snapshot K mg CSnapshot) (ctold_dependencies : Cal P w K mg base "told_dependencies" 4 ["name", "text", "results"] (spTold K))
    (call_known : Cal P w K mg base "_all_known" 1 ["found"] (spAllKnown K)) (cCache_find : CalM P w K mg base CCache "find" 2 ["self", "name", "text", "found"] (spCFind K CCache)) :
    FnOk P w K mg base CX0 5 f fd ["self", "sources", "pages", "attempts", "cache"] (spSInit K CSnapshot CCache) := by
  refine F.ok sc_Snapshot_init (fun vs H Q E h => ?_) (fun cdv A outer s H vs Q E hr h => ?_)
  · obtain ⟨p, S, A, c, dc, dx, srcs, pages, att, cs, rfl, _⟩ := h
    rfl
  · obtain ⟨p, S, G, c, dc, dx, srcs, pages, att, cs, rfl, hp, hS, ok, hG, ca, rr, q⟩ := h
    refine ⟨_, (pss_cons (ps_fld (pv 0) (pe_callTy call_tuple_of (by rfl) z.tuple (by decide +kernel) (pa_cons (pv 2) pa_nil)) rfl)
      (pss_cons (ps_fld (pv 0) pe_dnewK rfl)
      (pss_cons (ps_fld (pv 0) pe_dnewK rfl)
      (pss_one (ps_for PassesOwn.never rfl (pi_list (pe_callBK (cr_sortedDR rfl) (by rfl) z.sorted (by decide +kernel) (pa_cons (pv 1) pa_nil) (pk_cons pe_bl pk_nil))) (pg_name (i := 5) sc_Snapshot_init.nd rfl (Or.inl rfl))
        (pss_cons (ps_set (i := 6) sc_Snapshot_init.nd rfl (Or.inl rfl) (pe_dget (hu_of hr) (pv 1) (pv 5) (fun _ _ => rfl)))
        (pss_cons (ps_set (i := 7) sc_Snapshot_init.nd rfl (Or.inl rfl) (pe_cal ctold_dependencies (hr.mono (by decide)) (by rfl) (pa_cons (pv 5) (pa_cons (pv 6) (pa_cons (pe_fld (pv 0) rfl) pa_nil)))))
        (pss_cons (ps_dput (hu_of hr) (pe_fld (pv 0) rfl) (pv 5) (pv 7) rfl)
        (pss_one (ps_dput (hu_of hr) (pe_fld (pv 0) rfl) (pv 5) (pe_ifExp (pt_val (pe_cal call_known (hr.mono (by decide)) (by rfl) (pa_cons (pv 7) pa_nil))) (pe_calM cCache_find (hr.mono (by decide)) (pv 4) (pa_cons (pv 5) (pa_cons (pv 6) (pa_cons (pv 7) pa_nil)))) pe_non) rfl)))))))))), ?_⟩
    obtain ⟨nd, few, shorts⟩ := ok
    refine ⟨_, rfl, G, _, rfl, .inr ⟨hG, ?_⟩⟩
    refine ⟨_, rfl, p, CSnapshot, dx, [], rfl, hp, T.cl, T.n_pages, (by show 0 < 1000; decide), ?_⟩
    intro T1 nT1
    have pT : T1 ≠ p := (ne_of_none upd_same nT1).symm
    refine ⟨_, rfl, p, CSnapshot, dx, _, rfl, same_new nT1 _ _ upd_same, T.cl, T.n_told, (by show 1 < 1000; decide), ?_⟩
    intro D nD
    have pD : D ≠ p := (ne_of_none upd_same nD).symm
    have TD : T1 ≠ D := ne_of_none (by rw [upd_ne pT, upd_same]) nD
    refine ⟨_, rfl, p, CSnapshot, dx, _, rfl, same_new nD _ _ upd_same, T.cl, T.n_results, (by show 2 < 1000; decide), ?_⟩
    have fT : H T1 = none := by rw [upd_ne pT] at nT1; exact nT1
    have fD : H D = none := by rw [upd_ne pD, upd_ne TD.symm, upd_ne pD] at nD; exact nD
    generalize hHB : upd (upd (upd (upd (upd H p _) T1 _) p _) D _) p _ = HB
    have hpB : HB p = some (.ins CSnapshot dx [(("_pages" : Str), .ref G), (("_told" : Str), .ref T1), (("_results" : Str), .ref D)]) := by rw [← hHB, upd_same]; rfl
    have hTB : HB T1 = some (.dK []) := by rw [← hHB, upd_ne pT, upd_ne TD, upd_ne pT, upd_same]
    have hDB : HB D = some (.dK []) := by rw [← hHB, upd_ne pD, upd_same]
    have kB : ∀ b o, b ≠ p → H b = some o → HB b = some o := fun b o hb e => by
      rw [← hHB, upd_ne hb, upd_ne (ne_of_none e fD), upd_ne hb, upd_ne (ne_of_none e fT), upd_ne hb]
      exact e
    clear hHB nT1 nD
    have hSp : S ≠ p := ne_of hS hp (by intro z; cases z)
    refine ⟨.ref S, rfl, S, _, srcs.map (·.1), rfl, rfl, .inl (kB _ _ hSp hS), by unfold enc; rw [List.map_map, List.map_map]; rfl, by rw [List.length_map]; omega, fun zs p2 perm desc np2 => ?_⟩
    have ndz : zs.Nodup := perm.nodup_iff.mpr nd
    have memz : ∀ x, x ∈ zs ↔ x ∈ srcs.map (·.1) := fun x => perm.mem_iff
    have s2 : Same HB (upd HB p2 (.lst (zs.map V.str))) := same_new np2
    have p2p : p2 ≠ p := (ne_of_none hpB np2).symm
    have p2T : p2 ≠ T1 := (ne_of_none hTB np2).symm
    have p2D : p2 ≠ D := (ne_of_none hDB np2).symm
    refine ⟨p2, rfl, ⟨_, .inl (.inl upd_same)⟩, ?_⟩
    refine for_list (K := K) (a := p2) (xs := zs.map V.str) (fun j σ H3 => ∃ (y5 y6 y7 : Option V) (tl : Tl) (rs : List (Str × V)) (R : Str → Option Res), σ = [some (.ref p), some (.ref S), some (.ref G), some (.int att), some (.ref c), y5, y6, y7] ∧
        (∀ b o, b ≠ p → H b = some o → H3 b = some o) ∧ H3 p = some (.ins CSnapshot dx [(("_pages" : Str), .ref G), (("_told" : Str), .ref T1), (("_results" : Str), .ref D)]) ∧ H3 p2 = some (.lst (zs.map V.str)) ∧ Told K H3 T1 tl ∧ RDict K H3 D rs R ∧
        tl.map (·.1) = zs.take j ∧ rs.map (·.1) = zs.take j ∧ (∀ n r, R n = some r → Rok r) ∧ (∀ x ∈ zs.take j, ∀ t, getS srcs x = some t → toldOf tl x = toldN R x (segs nameB (aft x) t 0 0) ∧
          ((allK (toldN R x (segs nameB (aft x) t 0 0)) = false ∧ R x = none) ∨ (allK (toldN R x (segs nameB (aft x) t 0 0)) = true ∧ OD (findC (rowsC cs x) t ((toldN R x (segs nameB (aft x) t 0 0)).map depO)) (R x)))))
      ⟨_, _, _, [], [], fun _ => some nothing, rfl, fun b o hb e => s2 _ _ (kB b o hb e), s2 _ _ hpB, upd_same, ⟨s2 _ _ hTB, fun q hq => (by cases hq)⟩, ⟨s2 _ _ hDB, fun n v e => (by cases e), fun n _ => rfl, fun n r e => by rw [← Option.some.inj e]; exact rok_nothing.1⟩,
        rfl, rfl, fun n r e => by rw [← Option.some.inj e]; exact rok_nothing, by intro x hx; simp at hx⟩ (fun j σ H3 _ ⟨_, _, _, _, _, _, _, _, _, e, _⟩ => .inl (.inl e)) ?_ ?_
    · rintro j y σ H3 hy ⟨y5, y6, y7, tl, rs, R, rfl, k3, hp3, h23, told, rd, tkeys, rkeys, fine, facts⟩
      obtain ⟨x, hx, rfl⟩ : ∃ x, zs[j]? = some x ∧ y = V.str x := by
        rw [List.getElem?_map] at hy
        cases e : zs[j]? with
        | none => rw [e] at hy; cases hy
        | some x => rw [e] at hy; exact ⟨x, rfl, (Option.some.inj hy).symm⟩
      have jl : j < zs.length := (List.getElem?_eq_some_iff.mp hx).1
      have ej : zs[j] = x := (List.getElem?_eq_some_iff.mp hx).2
      obtain ⟨t, ht⟩ : ∃ t, getS srcs x = some t := by
        cases e : getS srcs x with
        | some t => exact ⟨t, rfl⟩
        | none => exact absurd ((memz x).mp (List.mem_of_getElem? hx)) (get_none.mp e)
      obtain ⟨n6, t60, codes⟩ := shorts _ (get_some ht)
      have t60 : t.length ≤ 60 := t60
      have dg : DGet H3 S (.str x) (some (.str t)) := by
        have := DGet.k (k := Sum.inr x) (show H3 S = some (.dK (enc V.str srcs)) from k3 _ _ hSp hS)
        rw [valV_enc, ht] at this
        exact this
      have tk : zs.take (j + 1) = zs.take j ++ [x] := by rw [List.take_add_one, hx]; rfl
      have nin : x ∉ zs.take j := fun h => by
        obtain ⟨i, hi⟩ := List.getElem?_of_mem h
        have ij : i < j := by
          by_cases lt : i < j
          · exact lt
          · rw [List.getElem?_eq_none (by rw [List.length_take]; omega)] at hi; cases hi
        rw [List.getElem?_take_of_lt ij, List.getElem?_eq_getElem (by omega : i < zs.length)] at hi
        exact (List.pairwise_iff_getElem.mp ndz) i j (by omega) jl ij (by rw [ej]; exact Option.some.inj hi)
      have ahd : ∀ y ∈ zs.take j, ahead y x = false := fun y h => by
        obtain ⟨i, hi⟩ := List.getElem?_of_mem h
        have ij : i < j := by
          by_cases lt : i < j
          · exact lt
          · rw [List.getElem?_eq_none (by rw [List.length_take]; omega)] at hi; cases hi
        rw [List.getElem?_take_of_lt ij, List.getElem?_eq_getElem (by omega : i < zs.length)] at hi
        have := (List.pairwise_iff_getElem.mp desc) i j (by omega) jl ij
        rw [ej, Option.some.inj hi] at this
        exact this
      refine ⟨_, rfl, _, rfl, S, .str t, rfl, dg, ?_⟩
      refine ⟨_, rfl, _, rfl, _, rfl, p, CSnapshot, dx, _, _, rfl, hp3, T.cl, T.n_results, rfl, x, t, D, rs, R, rfl, rd, by omega, codes, fun H4 F s4 nF td => ?_⟩
      have l1 := toldN_len R x (segs nameB (aft x) t 0 0)
      have l2 := segs_few nameB (aft x) t t.length 0 0 rfl (Nat.zero_le _)
      have aftx := segs_after nameB (aft x) t t.length 0 0 rfl (Nat.zero_le _)
      have named := told_named R x t
      generalize hl : toldN R x (segs nameB (aft x) t 0 0) = l at *
      have told4 := told.same s4
      have rd4 := rd.same s4
      have hp4 := s4 _ _ hp3
      have h24 := s4 _ _ h23
      have lk : zs.length ≤ 100 := by
        have h2 := few_of ndz (ys := srcs.map (·.1)) fun x hx => (memz x).mp hx
        rw [List.length_map] at h2
        omega
      have ltl : tl.length ≤ 100 := by
        have h1 := congrArg List.length tkeys
        rw [List.length_map, List.length_take] at h1
        omega
      have lrs : rs.length ≤ 100 := by
        have h1 := congrArg List.length rkeys
        rw [List.length_map, List.length_take] at h1
        omega
      -- self._told[name] = found
      have put1 : DPut H4 T1 (.str x) (.ref F) (upd H4 T1 (.dK (enc (fun p => V.ref p.1) (putS tl x (F, l))))) := by
        have := DPut.k (k := Sum.inr x) (v := V.ref F) told4.1 (by unfold enc; rw [List.length_map]; exact small5 (by omega))
        rwa [show putK (enc (fun p : Addr × List (Str × Option Res) => V.ref p.1) tl) (Sum.inr x) (V.ref F) = enc (fun p => V.ref p.1) (putS tl x (F, l)) from putK_enc (fun p : Addr × List (Str × Option Res) => V.ref p.1) tl x (F, l)] at this
      refine ⟨_, rfl, _, rfl, p, CSnapshot, dx, _, _, rfl, hp4, T.cl, T.n_told, rfl, _, rfl, T1, _, rfl, put1, ?_⟩
      have told5 := told4.put (x := x) td
      have rd5 := rd4.off (o := .dK (enc (fun p => V.ref p.1) (putS tl x (F, l)))) told4.1 TD.symm
      have td5 := tdeps_upd (o := .dK (enc (fun p => V.ref p.1) (putS tl x (F, l)))) told4.1 td
      have hp5 : upd H4 T1 (.dK (enc (fun p => V.ref p.1) (putS tl x (F, l)))) p = some (.ins CSnapshot dx [(("_pages" : Str), .ref G), (("_told" : Str), .ref T1), (("_results" : Str), .ref D)]) := by rw [upd_ne pT.symm]; exact hp4
      have h25 : upd H4 T1 (.dK (enc (fun p => V.ref p.1) (putS tl x (F, l)))) p2 = some (.lst (zs.map V.str)) := by rw [upd_ne p2T]; exact h24
      have k5 : ∀ b o, b ≠ p → H b = some o → upd H4 T1 (.dK (enc (fun p => V.ref p.1) (putS tl x (F, l)))) b = some o := fun b o hb e => by
        rw [upd_ne (ne_of_none e fT)]
        exact s4 _ _ (k3 b o hb e)
      generalize upd H4 T1 (.dK (enc (fun p => V.ref p.1) (putS tl x (F, l)))) = H5 at *
      clear put1 told4 rd4 hp4 h24 td nF s4
      refine ⟨_, rfl, F, l, rfl, td5, by omega, fun H6 s6 => ⟨_, rfl, ?_⟩⟩
      cases ek : allK l with
      | false =>
        refine iteF ?_
        have sHH := s6
        have ovF : OV K H6 .non none := rfl
        have rokF : ∀ r, (none : Option Res) = some r → Rok r := fun r e => (by cases e)
        have clF : (allK l = false ∧ (none : Option Res) = none) ∨ (allK l = true ∧ OD (findC (rowsC cs x) t (l.map depO)) none) := .inl ⟨ek, rfl⟩
        have put2 : DPut H6 D (.str x) V.non (upd H6 D (.dK (enc id (putS rs x V.non)))) := by
          have := DPut.k (k := Sum.inr x) (v := V.non) (sHH _ _ rd5.at_) (by unfold enc; rw [List.length_map]; exact small5 (by omega))
          rwa [show putK (enc id rs) (Sum.inr x) V.non = enc id (putS rs x V.non) from putK_enc id rs x V.non] at this
        refine ⟨_, rfl, p, CSnapshot, dx, _, _, rfl, sHH _ _ hp5, T.cl, T.n_results, rfl, _, rfl, D, _, rfl, put2, ?_⟩
        have rd7 := (rd5.same sHH).put (x := x) ovF fun r e => (rokF r e).1
        have told7 := (told5.same sHH).off (o := .dK (enc id (putS rs x V.non))) (sHH _ _ rd5.at_) TD
        have same : ∀ n, n ≠ x → (fun n => if n = x then (none:Option Res) else R n) n = R n := fun n h => if_neg h
        refine ⟨_, _, _, putS tl x (F, l), putS rs x V.non, fun n => if n = x then (none:Option Res) else R n, rfl, fun b o hb e => by rw [upd_ne (ne_of_none e fD)]; exact sHH _ _ (k5 b o hb e), by rw [upd_ne pD.symm]; exact sHH _ _ hp5, by rw [upd_ne p2D]; exact sHH _ _ h25, told7, rd7, ?_, ?_, fun n r e => ?_, fun y hy t' ht' => ?_⟩
        · rw [keys_put, get_none.mpr (by rw [tkeys]; exact nin), if_neg (by decide), tkeys, tk]
        · rw [keys_put, get_none.mpr (by rw [rkeys]; exact nin), if_neg (by decide), rkeys, tk]
        · have e : (if n = x then (none:Option Res) else R n) = some r := e
          by_cases h : n = x
          · rw [if_pos h] at e; exact rokF r e
          · rw [if_neg h] at e; exact fine n r e
        · rw [tk] at hy
          have afty := segs_after nameB (aft y) t' t'.length 0 0 rfl (Nat.zero_le _)
          have cong : toldN (fun n => if n = x then (none:Option Res) else R n) y (segs nameB (aft y) t' 0 0) = toldN R y (segs nameB (aft y) t' 0 0) := toldN_congr (fun n hn => same n (by
            rintro rfl
            rw [aft_ahead] at hn
            rcases List.mem_append.mp hy with h | h
            · rw [ahd y h] at hn; cases hn
            · rw [List.mem_singleton.mp h, ahead_irr] at hn; cases hn)) afty
          rw [cong]
          rcases List.mem_append.mp hy with h | h
          · have yx : y ≠ x := fun e => nin (by rw [← e]; exact h)
            rw [told_put, if_neg yx]
            show _ ∧ ((_ ∧ (if y = x then (none:Option Res) else R y) = none) ∨ (_ ∧ OD _ (if y = x then (none:Option Res) else R y)))
            rw [if_neg yx]
            exact facts y h t' ht'
          · obtain rfl : y = x := List.mem_singleton.mp h
            obtain rfl : t = t' := Option.some.inj (ht.symm.trans ht')
            rw [told_put, if_pos rfl, hl]
            show _ ∧ ((_ ∧ (if y = y then (none:Option Res) else R y) = none) ∨ (_ ∧ OD _ (if y = y then (none:Option Res) else R y)))
            rw [if_pos rfl]
            exact ⟨rfl, clF⟩
      | true =>
        refine iteT ?_
        have ca6 := (ca.off hp k5).same s6
        obtain ⟨dxc, kvc, hc, _⟩ := id ca6
        obtain ⟨o, od⟩ := find_od rr x t (l.map depO)
        have pd := told_pd (l := l) ek (by omega) fun d hd => by
          obtain ⟨h1, h2⟩ := named d hd
          refine ⟨⟨name_len h1, name_codes h1⟩, fun r e => ?_⟩
          rw [h2] at e
          exact fine _ r e
        refine ⟨_, rfl, c, dxc, _, rfl, hc, rfl, _, rfl, _, rfl, _, rfl, c, dc, cs, x, t, F, l.map depO, rfl, ca6, codes, by omega, tdeps_lat (td5.same s6) ek, pd.mono (by decide) (by decide), fun H7 v s7 dp => ?_⟩
        have sHH := s6.trans s7
        have ovF := od_ov dp od
        have rokF : ∀ r, o = some r → Rok r := fun r e => by rw [e] at od; exact od.2
        have clF : (allK l = false ∧ o = none) ∨ (allK l = true ∧ OD (findC (rowsC cs x) t (l.map depO)) o) := .inr ⟨ek, od⟩
        have put2 : DPut H7 D (.str x) v (upd H7 D (.dK (enc id (putS rs x v)))) := by
          have := DPut.k (k := Sum.inr x) (v := v) (sHH _ _ rd5.at_) (by unfold enc; rw [List.length_map]; exact small5 (by omega))
          rwa [show putK (enc id rs) (Sum.inr x) v = enc id (putS rs x v) from putK_enc id rs x v] at this
        refine ⟨_, rfl, p, CSnapshot, dx, _, _, rfl, sHH _ _ hp5, T.cl, T.n_results, rfl, _, rfl, D, _, rfl, put2, ?_⟩
        have rd7 := (rd5.same sHH).put (x := x) ovF fun r e => (rokF r e).1
        have told7 := (told5.same sHH).off (o := .dK (enc id (putS rs x v))) (sHH _ _ rd5.at_) TD
        have same : ∀ n, n ≠ x → (fun n => if n = x then o else R n) n = R n := fun n h => if_neg h
        refine ⟨_, _, _, putS tl x (F, l), putS rs x v, fun n => if n = x then o else R n, rfl, fun b o hb e => by rw [upd_ne (ne_of_none e fD)]; exact sHH _ _ (k5 b o hb e), by rw [upd_ne pD.symm]; exact sHH _ _ hp5, by rw [upd_ne p2D]; exact sHH _ _ h25, told7, rd7, ?_, ?_, fun n r e => ?_, fun y hy t' ht' => ?_⟩
        · rw [keys_put, get_none.mpr (by rw [tkeys]; exact nin), if_neg (by decide), tkeys, tk]
        · rw [keys_put, get_none.mpr (by rw [rkeys]; exact nin), if_neg (by decide), rkeys, tk]
        · have e : (if n = x then o else R n) = some r := e
          by_cases h : n = x
          · rw [if_pos h] at e; exact rokF r e
          · rw [if_neg h] at e; exact fine n r e
        · rw [tk] at hy
          have afty := segs_after nameB (aft y) t' t'.length 0 0 rfl (Nat.zero_le _)
          have cong : toldN (fun n => if n = x then o else R n) y (segs nameB (aft y) t' 0 0) = toldN R y (segs nameB (aft y) t' 0 0) := toldN_congr (fun n hn => same n (by
            rintro rfl
            rw [aft_ahead] at hn
            rcases List.mem_append.mp hy with h | h
            · rw [ahd y h] at hn; cases hn
            · rw [List.mem_singleton.mp h, ahead_irr] at hn; cases hn)) afty
          rw [cong]
          rcases List.mem_append.mp hy with h | h
          · have yx : y ≠ x := fun e => nin (by rw [← e]; exact h)
            rw [told_put, if_neg yx]
            show _ ∧ ((_ ∧ (if y = x then o else R y) = none) ∨ (_ ∧ OD _ (if y = x then o else R y)))
            rw [if_neg yx]
            exact facts y h t' ht'
          · obtain rfl : y = x := List.mem_singleton.mp h
            obtain rfl : t = t' := Option.some.inj (ht.symm.trans ht')
            rw [told_put, if_pos rfl, hl]
            show _ ∧ ((_ ∧ (if y = y then o else R y) = none) ∨ (_ ∧ OD _ (if y = y then o else R y)))
            rw [if_pos rfl]
            exact ⟨rfl, clF⟩
    · rintro σ H3 ⟨y5, y6, y7, tl, rs, R, rfl, k3, hp3, h23, told, rd, tkeys, rkeys, fine, facts⟩
      rw [List.length_map, List.take_length] at tkeys rkeys facts
      have noR : ∀ n, getS srcs n = none → R n = some nothing := fun n h => rd.no n (get_none.mpr (by rw [rkeys, memz]; exact get_none.mp h))
      have inz : ∀ {n t}, getS srcs n = some t → n ∈ zs := fun {n t} h => (memz n).mpr (List.mem_map.mpr ⟨_, get_some h, rfl⟩)
      have len : tl.length ≤ 100 := by
        have h1 := congrArg List.length tkeys
        rw [List.length_map] at h1
        have h2 := few_of ndz (ys := srcs.map (·.1)) fun x hx => (memz x).mp hx
        rw [List.length_map] at h2
        omega
      refine q H3 tl R k3 ⟨dx, G, T1, D, rs, hp3, ?_, told, rd, len, (fun n h => ?_), fT, fD⟩ ⟨noR, fun n t h => (facts n (inz h) t h).2⟩ fun n => ?_
      · rcases hG with (h | ⟨u, h⟩) | h
        · exact .inl (.inl (k3 _ _ (ne_of h hp (by intro z; cases z)) h))
        · exact .inl (.inr ⟨u, k3 _ _ (ne_of h hp (by intro z; cases z)) h⟩)
        · exact .inr h
      · rw [tkeys]
        cases e : getS srcs n with
        | some t => exact inz e
        | none => rw [noR n e] at h; cases h
      · cases e : getS srcs n with
        | some t => exact (facts n (inz e) t e).1
        | none =>
          have : getS tl n = none := get_none.mpr (by rw [tkeys, memz]; exact get_none.mp e)
          unfold toldOf
          rw [this]
end
end K07

namespace K07
open PySem PySem.Spec PyProof.Rows L2 Pg
/-! ### what the law knows -/
def lawK (kn : List (Str × (Addr × Res))) (srcs : List (Str × Str)) (n : Str) : Option Res := match getS srcs n with
  | none => some nothing
  | some _ => (getS kn n).map Prod.snd
def toldIn (R : Str → Option Res) (srcs : List (Str × Str)) (n : Str) : List (Str × Option Res) := match getS srcs n with
  | some t => toldN R n (segs nameB (aft n) t 0 0)
  | none => []
/-- sources that are read, locked or not -/
def RdS (H : Hp) (S : Addr) (srcs : List (Str × Str)) : Prop := Rd H S (.dK (enc V.str srcs))
theorem RdS.same {H H' : Hp} {S : Addr} {srcs : List (Str × Str)} (h : RdS H S srcs) (s : Same H H') : RdS H' S srcs := by
  rcases h with h | ⟨o, h⟩
  · exact .inl (s _ _ h)
  · exact .inr ⟨o, s _ _ h⟩
theorem RdS.get {H : Hp} {S : Addr} {srcs : List (Str × Str)} (h : RdS H S srcs) (n : Str) : DGet H S (.str n) ((getS srcs n).map V.str) := by
  have e := valV_enc V.str srcs n
  exact .inl ⟨enc V.str srcs, Sum.inr n, h, rfl, e.symm⟩
def spKnownL (K : PySem.W.Frag) : Sp := fun vs H Q _ => ∃ (D S : Addr) (kn : List (Str × (Addr × Res))) (srcs : List (Str × Str)) (n : Str), vs = [.ref D, .ref S, .str n] ∧ DictRes K H D kn ∧ RdS H S srcs ∧ ∀ (H' : Hp) (v : V), Same H H' → OV K H' v (lawK kn srcs n) → Q v H'
def spToldL (K : PySem.W.Frag) : Sp := fun vs H Q _ => ∃ (D S : Addr) (kn : List (Str × (Addr × Res))) (srcs : List (Str × Str)) (n : Str), vs = [.ref D, .ref S, .str n] ∧ DictRes K H D kn ∧ RdS H S srcs ∧ SrcOk srcs ∧
  ∀ (H' : Hp) (p : Addr), Same H H' → H p = none → TDeps K H' p (toldIn (lawK kn srcs) srcs n) → Q (.ref p) H'
theorem lawK_small {K : PySem.W.Frag} {H : Hp} {D : Addr} {kn : List (Str × (Addr × Res))} (h : DictRes K H D kn) (srcs : List (Str × Str)) (n : Str) (r : Res) (e : lawK kn srcs n = some r) : r.small := by
  unfold lawK at e
  cases g : getS srcs n with
  | none => rw [g] at e; rw [← Option.some.inj e]; exact rok_nothing.1
  | some t =>
    rw [g] at e
    cases g2 : getS kn n with
    | none => rw [g2] at e; cases e
    | some p =>
      rw [g2] at e
      rw [← Option.some.inj e]
      exact (h.2 _ (get_some g2)).2
theorem res_head' {K : PySem.W.Frag} {H : Hp} {t : Addr} {r : Res} (h : ResAt K H t r) : ∃ k rest, SqT K H t (.str k :: rest) ∧ decide (V.str k = V.str "text") = isText r := by
  cases r with
  | text c ls =>
    obtain ⟨l, h1, _⟩ := h
    exact ⟨_, _, h1, decide_eq_true rfl⟩
  | failed n => exact ⟨_, _, (show SqT K H t [.str "failed", .str n] from h), by show decide (V.str "failed" = V.str "text") = false; decide +kernel⟩
  | long n => exact ⟨_, _, (show SqT K H t [.str "long", .str n] from h), by show decide (V.str "long" = V.str "text") = false; decide +kernel⟩
section
variable {P : Program} {w : World} {K : PySem.W.Frag} {mg : Str → Option Value} {base : Heap} {f nA : Addr} {fd : FuncData}
theorem ok_law_known (F : Fun K "_law_known" "_law_known" s_law_known f fd) (z : Z mg) : FnOk P w K mg base CX0 1 f fd ["known", "sources", "name"] (spKnownL K) := by
  refine F.ok sc_law_known (fun vs H Q E h => ?_) (fun cdv A outer s H vs Q E hr h => ?_)
  · obtain ⟨D, S, kn, srcs, n, rfl, _⟩ := h
    rfl
  · obtain ⟨D, S, kn, srcs, n, rfl, hD, hS, q⟩ := h
    refine ⟨_, (pss_cons (ps_if (pt_cmp (pc_dnotin (hu_of hr) (pv 2) (pv 1)))
        (pss_one (ps_ret (pe_tup (pa_cons pe_str (pa_cons pe_str (pa_cons (pe_tup pa_nil) pa_nil))))))
        pss_nil)
      (pss_one (ps_ret (pe_dget1 (hu_of hr) (pv 0) (pv 2) ⟨by rfl, by rfl, by rfl, by rfl⟩)))), ?_⟩
    have dg := hS.get n
    refine ⟨_, rfl, _, rfl, S, _, rfl, dg, _, rfl, ?_⟩
    unfold lawK at q
    cases e : getS srcs n with
    | none =>
      rw [e] at q
      refine iteT ?_
      refine ⟨Nat.zero_le _, fun l nl => ⟨by show 3 ≤ sizeLine; decide, fun t nt => ?_⟩⟩
      exact q _ _ ((same_new nl).trans (same_new nt)) ⟨t, rfl, l, .inl (.inl upd_same), .inl (.inl (same_new nt _ _ upd_same))⟩
    | some t =>
      rw [e] at q
      refine iteF ?_
      have dk := DGet.k (k := Sum.inr n) hD.1
      rw [valV_enc] at dk
      refine ⟨_, rfl, D, rfl, .inl ⟨_, .inl hD.1⟩, _, rfl, _, dk, ?_⟩
      cases g : getS kn n with
      | none =>
        rw [g] at q
        exact q H _ (Same.refl H) rfl
      | some d =>
        rw [g] at q
        exact q H _ (Same.refl H) ⟨d.1, rfl, (hD.2 _ (get_some g)).1⟩
theorem ok_law_told (F : Fun K "_law_told" "_law_told" s_law_told f fd) (z : Z mg) (claw_is_name : Cal P w K mg base "_law_is_name" 1 ["text"] spIsName)
    (claw_split : Cal P w K mg base "_law_split" 3 ["name", "text"] spSplitL) (claw_known : Cal P w K mg base "_law_known" 1 ["known", "sources", "name"] (spKnownL K)) :
    FnOk P w K mg base CX0 4 f fd ["known", "sources", "name"] (spToldL K) := by
  refine F.ok sc_law_told (fun vs H Q E h => ?_) (fun cdv A outer s H vs Q E hr h => ?_)
  · obtain ⟨D, S, kn, srcs, n, rfl, _⟩ := h
    rfl
  · obtain ⟨D, S, kn, srcs, nm, rfl, hD, hS, ok, q⟩ := h
    refine ⟨_, (pss_cons (ps_set (i := 3) sc_law_told.nd rfl (Or.inl rfl) (pe_lst pa_nil))
      (pss_cons (ps_if (pt_cmp (pc_din (hu_of hr) (pv 2) (pv 1)))
        (pss_one (ps_for PassesOwn.never rfl (pi_list (pe_cal claw_split (hr.mono (by decide)) (by rfl) (pa_cons (pv 2) (pa_cons (pe_dget (hu_of hr) (pv 1) (pv 2) (fun _ _ => rfl)) pa_nil)))) (pg_tup rfl (pgs_cons (pg_name (i := 4) sc_law_told.nd rfl (Or.inl rfl)) (pgs_cons (pg_name (i := 5) sc_law_told.nd rfl (Or.inl rfl)) pgs_nil)))
          (pss_one (ps_if (pt_cmpR op_in_seq (pv 4) (pe_tup (pa_cons pe_str (pa_cons pe_str pa_nil))) (by rfl))
            (pss_cons (ps_set (i := 6) sc_law_told.nd rfl (Or.inl rfl) (pe_cal claw_known (hr.mono (by decide)) (by rfl) (pa_cons (pv 0) (pa_cons (pv 1) (pa_cons (pv 5) pa_nil)))))
            (pss_cons (ps_expr (pe_bm PySem.F.plainAttrs_list PySem.F.slot_list_append PySem.F.type_list_append mt_append (pv 3) (pa_cons (pe_tup (pa_cons (pv 5) (pa_cons (pv 6) pa_nil))) pa_nil)))
            (pss_one (ps_if (PW.pt (pw_and (pt_cmpR op_eq (pv 4) pe_str (nomark _)) (pw_and (pt_cmpR op_notN (pv 6) pe_non (nomark _)) (pw_and1 (pt_cmpR op_eq (pe_ix ix_tup (pv 6) pe_int (fun _ _ => rfl)) pe_str (nomark _))))))
              (pss_one (ps_if (PW.pt (pw_and (pt_val (pe_cal claw_is_name (hr.mono (by decide)) (by rfl) (pa_cons (pe_ix ix_tup (pv 6) pe_int (fun _ _ => rfl)) pa_nil))) (pw_and1 (pt_cmpR op_gt_str (pe_ix ix_tup (pv 6) pe_int (fun _ _ => rfl)) (pv 2) (nomark _)))))
                (pss_one (ps_expr (pe_bm PySem.F.plainAttrs_list PySem.F.slot_list_append PySem.F.type_list_append mt_append (pv 3) (pa_cons (pe_tup (pa_cons (pe_ix ix_tup (pv 6) pe_int (fun _ _ => rfl)) (pa_cons (pe_cal claw_known (hr.mono (by decide)) (by rfl) (pa_cons (pv 0) (pa_cons (pv 1) (pa_cons (pe_ix ix_tup (pv 6) pe_int (fun _ _ => rfl)) pa_nil)))) pa_nil))) pa_nil))))
                pss_nil))
              pss_nil))))
            pss_nil))))
        pss_nil)
      (pss_one (ps_ret (pv 3))))), ?_⟩
    refine ⟨Nat.zero_le _, fun L nL => ?_⟩
    have hSL : RdS (upd H L (.lst [])) S srcs := hS.same (same_new nL)
    have dg := hSL.get nm
    refine ⟨_, rfl, _, rfl, S, _, rfl, dg, _, rfl, ?_⟩
    unfold toldIn at q
    cases e : getS srcs nm with
    | none =>
      rw [e] at q
      refine iteF ⟨_, rfl, ?_⟩
      exact q _ L (same_new nL) nL ⟨[], upd_same, .nil⟩
    | some t =>
    rw [e] at q dg
    change ∀ (H' : Hp) (p : Addr), Same H H' → H p = none → TDeps K H' p (toldN (lawK kn srcs) nm (segs nameB (aft nm) t 0 0)) → _ at q
    refine iteT ?_
    obtain ⟨n6, t60, codes⟩ := ok.2.2 _ (get_some e)
    have t60 : t.length ≤ 60 := t60
    have few : t.length ≤ 1000 := by omega
    refine ⟨_, rfl, _, rfl, _, rfl, S, .str t, rfl, dg, nm, t, rfl, few, codes, fun H1 S0 s1 nS0 sa => ?_⟩
    have fewS := segs_few nameB (aft nm) t t.length 0 0 rfl (Nat.zero_le _)
    have fineS := segs_fine nameB (aft nm) t t.length 0 0 rfl (Nat.le_refl _) (Nat.zero_le _)
    have small := fun n r => lawK_small hD srcs n r
    generalize hR : lawK kn srcs = R at *
    generalize segs nameB (aft nm) t 0 0 = l at *
    obtain ⟨ts, hS0, pr⟩ := sa
    have lts := paired_len pr
    have s01 : Same H H1 := (same_new nL).trans s1
    refine ⟨S0, rfl, ⟨_, .inl (.inl hS0)⟩, ?_⟩
    have nSL : S0 ≠ L := ne_of_none upd_same nS0 |>.symm
    refine for_list (K := K) (a := S0) (xs := ts.map V.ref) (fun j σ H3 => ∃ y4 y5 y6 : Option V, σ = [some (.ref D), some (.ref S), some (.str nm), some (.ref L), y4, y5, y6] ∧ Same H H3 ∧ (∀ b o, b ≠ L → H1 b = some o → H3 b = some o) ∧ TDeps K H3 L (toldN R nm (l.take j)))
      ⟨_, _, _, rfl, s01, fun _ _ _ e => e, ⟨[], s1 _ _ upd_same, .nil⟩⟩ (fun j σ H3 _ ⟨_, _, _, _, _, kp, _⟩ => .inl (.inl (kp S0 _ nSL hS0))) ?_ ?_
    · rintro j y σ H3 hy ⟨y4, y5, y6, rfl, s3, kp, hL⟩
      obtain ⟨a, ha, rfl⟩ : ∃ a, ts[j]? = some a ∧ y = V.ref a := by
        rw [List.getElem?_map] at hy
        cases e : ts[j]? with
        | none => rw [e] at hy; cases hy
        | some a => rw [e] at hy; exact ⟨a, rfl, (Option.some.inj hy).symm⟩
      have hj : j < l.length := by
        rw [← lts]
        by_cases lt : j < ts.length
        · exact lt
        · rw [List.getElem?_eq_none (by omega)] at ha; cases ha
      have hs : l[j]? = some l[j] := List.getElem?_eq_getElem hj
      obtain ⟨a', ha', tu⟩ := paired_at pr hs
      obtain rfl : a = a' := Option.some.inj (ha.symm.trans ha')
      have aL : a ≠ L := ne_of tu (s1 _ _ upd_same) (by intro z; cases z)
      have tu3 : H3 a = some (.tup [.str l[j].1, .str l[j].2]) := kp a _ aL tu
      have succ := toldN_succ (R := R) (nm := nm) hs
      obtain ⟨fk, fl, fc⟩ := fineS _ (List.getElem_mem hj)
      generalize l[j] = sg at *
      have room : (toldN R nm (l.take j)).length ≤ 6100 := by
        have h1 := toldN_len R nm (l.take j)
        rw [List.length_take] at h1
        omega
      refine ⟨a, _, rfl, .inl (.inl tu3), rfl, _, _, rfl, _, _, rfl, rfl, ?_⟩
      refine ⟨_, rfl, by show 2 ≤ sizeLine; decide, fun k2 nk2 => ?_⟩
      have sk : Same H3 (upd H3 k2 (.tup [.str "include", .str "indirect"])) := same_new nk2
      refine ⟨k2, _, rfl, .inr (.inl (.inl upd_same)), rfl, by decide +kernel, _, rfl, ?_⟩
      show if inV (.str sg.1) ((["include", "indirect"] : List Str).map V.str) = true then _ else _
      rw [inV_str]
      have keepH : ∀ {H' : Hp}, Same (upd H3 k2 (.tup [.str "include", .str "indirect"])) H' → Same H H' := fun {H'} s' => s3.trans (sk.trans s')
      have keep1 : ∀ {H' : Hp}, Same (upd H3 k2 (.tup [.str "include", .str "indirect"])) H' → ∀ b o, b ≠ L → H1 b = some o → H' b = some o := fun {H'} s' b o hb e => s' _ _ (sk _ _ (kp b o hb e))
      refine ite2 (fun e => ?_) (fun e => ?_)
      · have mem := of_decide_eq_true e
        refine ⟨_, rfl, _, rfl, _, rfl, D, S, kn, srcs, sg.2, rfl, hD.same (keepH (Same.refl _)), hS.same (keepH (Same.refl _)), fun H4 v s4 ov => ?_⟩
        rw [hR] at ov
        obtain ⟨us, hU, pu⟩ := (hL.same sk).same s4
        refine ⟨.ref L, rfl, .inl ⟨rfl, _, .inl (.inl hU)⟩, _, rfl, _, rfl, by show 2 ≤ sizeLine; decide, fun u nu => ?_⟩
        have s5 := same_new (o := .tup [.str sg.2, v]) nu
        have hU5 := s5 _ _ hU
        refine ⟨L, _, _, rfl, rfl, hU5, by rw [List.length_map, paired_len pu]; exact small5 (by omega), ?_⟩
        have push1 := TDeps.push (d := (sg.2, R sg.2)) hU5 (Paired.mapP pu fun _ _ x => x.same s5) ⟨v, .inl (.inl upd_same), ov.same s5⟩
        have ov6 := (ov.same s5).upd (x := .lst (us.map V.ref ++ [.ref u])) hU5
        have sH : Same H (upd (upd H4 u (.tup [.str sg.2, v])) L (.lst (us.map V.ref ++ [.ref u]))) := fun b o hb => by
          rw [upd_ne (ne_of_none hb nL)]
          exact keepH (s4.trans s5) _ _ hb
        have k1 : ∀ b o, b ≠ L → H1 b = some o → (upd (upd H4 u (.tup [.str sg.2, v])) L (.lst (us.map V.ref ++ [.ref u]))) b = some o := fun b o hb e => by
          rw [upd_ne hb]
          exact keep1 (s4.trans s5) b o hb e
        clear hU5 hU pu ov
        generalize upd (upd H4 u (.tup [.str sg.2, v])) L (.lst (us.map V.ref ++ [.ref u])) = H6 at *
        rw [succ]
        have sm := small sg.2
        by_cases e1 : sg.1 = "include"
        · have tl : told1 R nm sg = [(sg.2, R sg.2)] := by
            unfold told1
            rw [if_pos e1]
          have e2 : decide (V.str sg.1 = V.str "indirect") = false := decide_eq_false fun h => by
            have h' := V.str.inj h
            rw [e1] at h'
            exact k_ii h'
          refine ⟨_, rfl, rfl, _, rfl, ?_⟩
          rw [e2]
          refine iteF (iteF ?_)
          refine ⟨_, _, _, rfl, sH, k1, ?_⟩
          rw [tl]
          exact push1
        · have e2 : sg.1 = "indirect" := by
            rcases List.mem_cons.mp mem with h | h
            · exact absurd h e1
            · exact List.mem_singleton.mp h
          have tl0 : told1 R nm sg = (sg.2, R sg.2) :: (match (R sg.2).bind (leads nm) with | some c => [(c, R c)] | none => []) := by
            unfold told1
            rw [if_neg e1, if_pos e2]
            all_goals rfl
          refine ⟨_, rfl, rfl, _, rfl, ?_⟩
          rw [show decide (V.str sg.1 = V.str "indirect") = true from decide_eq_true (by rw [e2])]
          refine iteT ?_
          cases hRo : R sg.2 with
          | none =>
            rw [hRo] at ov6
            obtain rfl : v = .non := ov6
            have tl : told1 R nm sg = [(sg.2, R sg.2)] := by rw [tl0, hRo]; rfl
            refine ⟨_, rfl, rfl, _, rfl, iteF (iteF ?_)⟩
            refine ⟨_, _, _, rfl, sH, k1, ?_⟩
            rw [tl]
            exact push1
          | some r =>
            rw [hRo] at ov6
            obtain ⟨tt, rfl, hr⟩ := ov6
            obtain ⟨k, rsx, hT0, hk⟩ := res_head' hr
            refine ⟨_, rfl, rfl, _, rfl, iteT ?_⟩
            refine ⟨.ref tt, rfl, tt, _, _, .str k, rfl, rfl, hT0, atI_nat (j := 0) rfl, rfl, _, rfl, ?_⟩
            rw [hk]
            cases r with
            | failed n =>
              have tl : told1 R nm sg = [(sg.2, R sg.2)] := by rw [tl0, hRo]; rfl
              refine iteF ?_
              refine ⟨_, _, _, rfl, sH, k1, ?_⟩
              rw [tl]
              exact push1
            | long n =>
              have tl : told1 R nm sg = [(sg.2, R sg.2)] := by rw [tl0, hRo]; rfl
              refine iteF ?_
              refine ⟨_, _, _, rfl, sH, k1, ?_⟩
              rw [tl]
              exact push1
            | text c' ls =>
              refine iteT ?_
              obtain ⟨l0, hT, _⟩ := hr
              have smc := (sm _ hRo).1
              refine ⟨.ref tt, rfl, tt, _, _, .str c', rfl, rfl, hT, atI_nat (j := 1) rfl, c', rfl, by omega, _, rfl, ite2 (fun en => ?_) (fun en => ?_)⟩
              · refine ⟨.ref tt, rfl, tt, _, _, .str c', rfl, rfl, hT, atI_nat (j := 1) rfl, _, rfl, _, _, rfl, rfl, _, rfl, ite2 (fun ea => ?_) (fun ea => ?_)⟩
                · have ea : aft nm c' = true := ea
                  have ld : leads nm (.text c' ls) = some c' := if_pos ⟨en, ea⟩
                  have tl : told1 R nm sg = [(sg.2, R sg.2), (c', R c')] := by
                    rw [tl0, hRo]
                    show _ :: (match leads nm (.text c' ls) with | some c => [(c, R c)] | none => []) = _
                    rw [ld]
                  obtain ⟨ws, hW, pw⟩ := push1
                  refine ⟨.ref L, rfl, .inl ⟨rfl, _, .inl (.inl hW)⟩, .ref tt, rfl, tt, _, _, .str c', rfl, rfl, hT, atI_nat (j := 1) rfl, _, rfl, _, rfl, .ref tt, rfl, tt, _, _, .str c', rfl, rfl, hT, atI_nat (j := 1) rfl, D, S, kn, srcs, c', rfl, hD.same sH, hS.same sH, fun H7 v2 s7 ov2 => ?_⟩
                  rw [hR] at ov2
                  refine ⟨by show 2 ≤ sizeLine; decide, fun u2 nu2 => ?_⟩
                  have s8 := s7.trans (same_new (o := .tup [.str c', v2]) nu2)
                  have hW8 := s8 _ _ hW
                  have lw := paired_len pw
                  rw [List.length_append] at lw
                  refine ⟨L, _, _, rfl, rfl, hW8, by rw [List.length_map, lw]; show _ + 1 < sizeLine; exact small5 (by omega), ?_⟩
                  have push2 := TDeps.push (d := (c', R c')) hW8 (Paired.mapP pw fun _ _ x => x.same s8) ⟨v2, .inl (.inl upd_same), ov2.same (same_new nu2)⟩
                  rw [List.append_assoc] at push2
                  refine ⟨_, _, _, rfl, fun b o hb => ?_, fun b o hb e => ?_, ?_⟩
                  · rw [upd_ne (ne_of_none hb nL)]
                    exact s8 _ _ (sH _ _ hb)
                  · rw [upd_ne hb]
                    exact s8 _ _ (k1 b o hb e)
                  · rw [tl]
                    exact push2
                · have ea : ¬ aft nm c' = true := ea
                  have ld : leads nm (.text c' ls) = none := if_neg fun h => ea h.2
                  have tl : told1 R nm sg = [(sg.2, R sg.2)] := by
                    rw [tl0, hRo]
                    show _ :: (match leads nm (.text c' ls) with | some c => [(c, R c)] | none => []) = _
                    rw [ld]
                  refine ⟨_, _, _, rfl, sH, k1, ?_⟩
                  rw [tl]
                  exact push1
              · have ld : leads nm (.text c' ls) = none := if_neg fun h => en h.1
                have tl : told1 R nm sg = [(sg.2, R sg.2)] := by
                  rw [tl0, hRo]
                  show _ :: (match leads nm (.text c' ls) with | some c => [(c, R c)] | none => []) = _
                  rw [ld]
                refine iteF ?_
                refine ⟨_, _, _, rfl, sH, k1, ?_⟩
                rw [tl]
                exact push1
      · have nm' : sg.1 ∉ (["include", "indirect"] : List Str) := by simpa using e
        have tl : told1 R nm sg = [] := by
          unfold told1
          rw [if_neg (fun h => nm' (by rw [h]; exact List.mem_cons_self)), if_neg (fun h => nm' (by rw [h]; exact List.mem_cons_of_mem _ List.mem_cons_self))]
        refine ⟨_, _, _, rfl, keepH (Same.refl _), keep1 (Same.refl _), ?_⟩
        rw [succ, tl, List.append_nil]
        exact hL.same sk
    · rintro σ H3 ⟨y4, y5, y6, rfl, s3, kp, hL⟩
      have e : l.take (ts.map V.ref).length = l := by rw [List.length_map, lts, List.take_length]
      rw [e] at hL
      exact ⟨_, rfl, q H3 L s3 nL hL⟩
end
end K07

namespace K07
open PySem PySem.Spec PyProof.Rows L2 Pg
def needK (R : Str → Option Res) (srcs : List (Str × Str)) (y : Str) : List Str := (toldIn R srcs y).map Prod.fst
theorem told_after {R : Str → Option Res} {nm t : Str} {d : Str × Option Res} (h : d ∈ toldN R nm (segs nameB (aft nm) t 0 0)) : aft nm d.1 = true := by
  unfold toldN at h
  obtain ⟨s, hs, h⟩ := List.mem_flatMap.mp h
  have a := segs_after nameB (aft nm) t t.length 0 0 rfl (Nat.zero_le _) s hs
  unfold told1 at h
  split at h
  · rename_i e
    rw [List.mem_singleton.mp h]
    rcases a with a | ⟨a, _⟩ | ⟨_, _, a⟩
    · rw [e] at a; exact absurd a k_it
    · rw [e] at a; exact absurd a k_il
    · exact a
  · split at h
    · rename_i e
      rcases List.mem_cons.mp h with h | h
      · rw [h]
        rcases a with a | ⟨a, _⟩ | ⟨_, _, a⟩
        · rw [e] at a; exact absurd a k_dt
        · rw [e] at a; exact absurd a k_dl
        · exact a
      · split at h
        · rename_i c hl
          rw [List.mem_singleton.mp h]
          cases hR : R s.2 with
          | none => rw [hR] at hl; cases hl
          | some r => rw [hR] at hl; exact leads_aft hl
        · cases h
    · cases h
theorem needK_after {R : Str → Option Res} {srcs : List (Str × Str)} {x y : Str} (h : y ∈ needK R srcs x) : ahead x y = true ∧ ∃ t, getS srcs x = some t := by
  unfold needK toldIn at h
  cases e : getS srcs x with
  | none => rw [e] at h; cases h
  | some t =>
    rw [e] at h
    obtain ⟨d, hd, rfl⟩ := List.mem_map.mp h
    rw [← aft_ahead]
    exact ⟨told_after hd, t, rfl⟩
def spNeeded (K : PySem.W.Frag) : Sp := fun vs H Q _ => ∃ (D S A : Addr) (kn : List (Str × (Addr × Res))) (srcs : List (Str × Str)) (pages : List Str), vs = [.ref D, .ref S, .ref A] ∧ DictRes K H D kn ∧ DictS H S srcs ∧ SrcOk srcs ∧ SqT K H A (pages.map V.str) ∧ pages.length ≤ 100 ∧ pages.Nodup ∧
  ∀ (H' : Hp) (p : Addr) (xs : List Str), Same H H' → H p = none → H' p = some (.lst (xs.map V.str)) → Rise xs → (∀ x, x ∈ xs ↔ Reach (needK (lawK kn srcs) srcs) pages x) → Q (.ref p) H'
section
variable {P : Program} {w : World} {K : PySem.W.Frag} {mg : Str → Option Value} {base : Heap} {f nA : Addr} {fd : FuncData}
theorem ok_law_needed (F : Fun K "_law_needed" "_law_needed" s_law_needed f fd) (z : Z mg) (claw_told : Cal P w K mg base "_law_told" 4 ["known", "sources", "name"] (spToldL K)) :
    FnOk P w K mg base CX0 5 f fd ["known", "sources", "pages"] (spNeeded K) := by
  refine F.ok sc_law_needed (fun vs H Q E h => ?_) (fun cdv A outer s H vs Q E hr h => ?_)
  · obtain ⟨D, S, A, kn, srcs, pages, rfl, _⟩ := h
    rfl
  · obtain ⟨D, S, G, kn, srcs, pages, rfl, hR, hS, ⟨nd, few, shorts⟩, hP, lp, ndp, q⟩ := h
    refine ⟨_, (pss_cons (ps_set (i := 3) sc_law_needed.nd rfl (Or.inl rfl) (pe_callTy call_list_of (by rfl) z.list (by decide +kernel) (pa_cons (pv 2) pa_nil)))
      (pss_cons (ps_for PassesOwn.never rfl (pi_range1 (by rfl) z.range (pa_cons pe_int pa_nil)) (pg_name (i := 4) sc_law_needed.nd rfl (Or.inl rfl))
        (pss_one (ps_for PassesOwn.never rfl (pi_list (pe_callTy call_list_of (by rfl) z.list (by decide +kernel) (pa_cons (pv 3) pa_nil))) (pg_name (i := 5) sc_law_needed.nd rfl (Or.inl rfl))
          (pss_one (ps_for PassesOwn.never rfl (pi_list (pe_cal claw_told (hr.mono (by decide)) (by rfl) (pa_cons (pv 0) (pa_cons (pv 1) (pa_cons (pv 5) pa_nil))))) (pg_tup rfl (pgs_cons (pg_name (i := 6) sc_law_needed.nd rfl (Or.inl rfl)) (pgs_cons (pg_name (i := 7) sc_law_needed.nd rfl (Or.inl rfl)) pgs_nil)))
            (pss_one (ps_if (pt_cmpR op_notIn_seq (pv 6) (pv 3) (by rfl))
              (pss_one (ps_expr (pe_bm PySem.F.plainAttrs_list PySem.F.slot_list_append PySem.F.type_list_append mt_append (pv 3) (pa_cons (pv 6) pa_nil))))
              pss_nil)))))))
      (pss_one (ps_ret (pe_callB cr_sortedSA (by rfl) z.sorted (by decide +kernel) (pa_cons (pv 3) pa_nil)))))), ?_⟩
    have needlen : ∀ x, (needK (lawK kn srcs) srcs x).length ≤ 363 := fun x => by
      unfold needK toldIn
      cases e : getS srcs x with
      | none => exact Nat.zero_le _
      | some t =>
        have t60 : t.length ≤ 60 := (shorts _ (get_some e)).2.1
        have l1 := toldN_len (lawK kn srcs) x (segs nameB (aft x) t 0 0)
        have l2 := segs_few nameB (aft x) t t.length 0 0 rfl (Nat.zero_le _)
        show ((toldN (lawK kn srcs) x (segs nameB (aft x) t 0 0)).map Prod.fst).length ≤ 363
        rw [List.length_map]
        omega
    have fl := flat_len (f := fun p : Str × Str => needK (lawK kn srcs) srcs p.1) (n := 363) (fun p => needlen p.1) srcs
    obtain ⟨U, hU⟩ : ∃ U, U = pages ++ srcs.flatMap (fun p => needK (lawK kn srcs) srcs p.1) := ⟨_, rfl⟩
    have lU : U.length ≤ 5000 := by rw [hU, List.length_append]; omega
    have pU : ∀ x ∈ pages, x ∈ U := fun x hx => by rw [hU]; exact List.mem_append_left _ hx
    have gU : ∀ x, ∀ y ∈ needK (lawK kn srcs) srcs x, y ∈ U := fun x y hy => by
      obtain ⟨_, t, ht⟩ := needK_after hy
      rw [hU]
      exact List.mem_append_right _ (List.mem_flatMap.mpr ⟨(x, t), get_some ht, hy⟩)
    clear hU fl
    -- list(pages)
    refine ⟨_, rfl, G, _, rfl, .inr hP, fun L nL => ?_⟩
    have nL0 := nL
    refine ⟨30, rfl, by decide, by decide, ?_⟩
    refine for_range (lo := 0) (n := 30) (fun i σ H3 => ∃ (y5 y6 y7 y8 : Option V) (fs : List Str), σ = [some (.ref D), some (.ref S), some (.ref G), some (.ref L), y5, y6, y7, y8] ∧ Same H H3 ∧ H3 L = some (.lst (fs.map V.str)) ∧
        fs.Nodup ∧ (∀ x ∈ fs, x ∈ U) ∧ (∀ x ∈ fs, Reach (needK (lawK kn srcs) srcs) pages x) ∧ (∀ x ∈ pages, x ∈ fs) ∧ ∀ x ∈ fs, (∀ y ∈ needK (lawK kn srcs) srcs x, y ∈ fs) ∨ i ≤ rank srcs x)
      ⟨_, _, _, _, pages, rfl, same_new nL, upd_same, ndp, pU, fun x hx => .page hx, fun x hx => hx, fun x _ => .inr (Nat.zero_le _)⟩ ?_ ?_
    · rintro i σ H3 hi ⟨y5, y6, y7, y8, fs, rfl, s3, hL, nd1, fU, fR, fP, fJ⟩
      refine ⟨.ref L, rfl, L, _, rfl, .inl (.inl (.inl hL)), fun p np => ⟨p, rfl, ⟨_, .inl (.inl upd_same)⟩, ?_⟩⟩
      have pL : p ≠ L := (ne_of_none hL np).symm
      refine for_list (K := K) (a := p) (xs := fs.map V.str) (fun j σ H4 => ∃ (y6 y7 y8 : Option V) (new : List Str), σ = [some (.ref D), some (.ref S), some (.ref G), some (.ref L), some (.int (0 + (i : Nat))), y6, y7, y8] ∧ Same H H4 ∧
          H4 p = some (.lst (fs.map V.str)) ∧ H4 L = some (.lst ((fs ++ new).map V.str)) ∧ (fs ++ new).Nodup ∧ (∀ x ∈ new, x ∈ U ∧ Reach (needK (lawK kn srcs) srcs) pages x ∧ i + 1 ≤ rank srcs x) ∧ ∀ x ∈ fs.take j, ∀ y ∈ needK (lawK kn srcs) srcs x, y ∈ fs ++ new)
        ⟨_, _, _, [], rfl, s3.trans (same_new np), upd_same, by rw [List.append_nil]; exact same_new np _ _ hL, by rw [List.append_nil]; exact nd1, (by intro x hx; cases hx), by intro x hx; simp at hx⟩ (fun j σ H4 _ ⟨_, _, _, _, _, _, e, _⟩ => .inl (.inl e)) ?_ ?_
      · rintro j y σ H4 hy ⟨y6, y7, y8, new, rfl, s4, hp4, hL4, nd4, nw, cl⟩
        obtain ⟨x, hx, rfl⟩ : ∃ x, fs[j]? = some x ∧ y = V.str x := by
          rw [List.getElem?_map] at hy
          cases e : fs[j]? with
          | none => rw [e] at hy; cases hy
          | some x => rw [e] at hy; exact ⟨x, rfl, (Option.some.inj hy).symm⟩
        have xin := List.mem_of_getElem? hx
        have tk : fs.take (j + 1) = fs.take j ++ [x] := by rw [List.take_add_one, hx]; rfl
        refine ⟨_, rfl, _, rfl, _, rfl, D, S, kn, srcs, x, rfl, hR.same s4, .inl (s4 _ _ hS), ⟨nd, few, shorts⟩, fun H5 F s5 nF deps => ?_⟩
        have en : needK (lawK kn srcs) srcs x = (toldIn (lawK kn srcs) srcs x).map Prod.fst := rfl
        have aft_ : ∀ d ∈ toldIn (lawK kn srcs) srcs x, ahead x d.1 = true ∧ ∃ t, getS srcs x = some t := fun d hd => needK_after (List.mem_map.mpr ⟨d, hd, rfl⟩)
        obtain ⟨gs, hF, pg⟩ := deps
        have lg := paired_len pg
        generalize toldIn (lawK kn srcs) srcs x = ds at *
        have hL5 := s5 _ _ hL4
        have hp5 := s5 _ _ hp4
        have FL : F ≠ L := (ne_of_none hL4 nF).symm
        refine ⟨F, rfl, ⟨_, .inl (.inl hF)⟩, ?_⟩
        refine for_list (K := K) (a := F) (xs := gs.map V.ref) (fun k σ H6 => ∃ (y7 y8 : Option V) (new : List Str), σ = [some (.ref D), some (.ref S), some (.ref G), some (.ref L), some (.int (0 + (i : Nat))), some (.str x), y7, y8] ∧ Same H H6 ∧
            (∀ b o, b ≠ L → H5 b = some o → H6 b = some o) ∧ H6 L = some (.lst ((fs ++ new).map V.str)) ∧ (fs ++ new).Nodup ∧ (∀ x ∈ new, x ∈ U ∧ Reach (needK (lawK kn srcs) srcs) pages x ∧ i + 1 ≤ rank srcs x) ∧
            (∀ x ∈ fs.take j, ∀ y ∈ needK (lawK kn srcs) srcs x, y ∈ fs ++ new) ∧ ∀ d ∈ ds.take k, d.1 ∈ fs ++ new)
          ⟨_, _, new, rfl, s4.trans s5, fun b o _ e => e, hL5, nd4, nw, cl, by intro d hd; simp at hd⟩ (fun k σ H6 _ ⟨_, _, _, _, _, kp, _⟩ => .inl (.inl (kp _ _ FL hF))) ?_ ?_
        · clear cl nw nd4 hL4
          rintro k y σ H6 hy ⟨y7, y8, new, rfl, s6, kp, hL6, nd6, nw, cl, cd⟩
          obtain ⟨ga, hga, rfl⟩ : ∃ a, gs[k]? = some a ∧ y = V.ref a := by
            rw [List.getElem?_map] at hy
            cases e : gs[k]? with
            | none => rw [e] at hy; cases hy
            | some a => rw [e] at hy; exact ⟨a, rfl, (Option.some.inj hy).symm⟩
          have hk : k < ds.length := by
            rw [← lg]
            by_cases lt : k < gs.length
            · exact lt
            · rw [List.getElem?_eq_none (by omega)] at hga; cases hga
          have hd : ds[k]? = some ds[k] := List.getElem?_eq_getElem hk
          obtain ⟨ga', hga', tr, hT, hR'⟩ := paired_at pg hd
          obtain rfl : ga = ga' := Option.some.inj (hga.symm.trans hga')
          have tk2 : ds.take (k + 1) = ds.take k ++ [ds[k]] := by rw [List.take_add_one, hd]; rfl
          have dmem : ds[k].1 ∈ needK (lawK kn srcs) srcs x := by
            rw [en]
            exact List.mem_map.mpr ⟨_, List.getElem_mem hk, rfl⟩
          have daft := aft_ _ (List.getElem_mem hk)
          generalize ds[k] = d at *
          obtain ⟨n0, r⟩ := d
          have dmem : n0 ∈ needK (lawK kn srcs) srcs x := dmem
          obtain ⟨daft, tx, htx⟩ := daft
          have daft : ahead x n0 = true := daft
          have hT6 := seqT_keep hL5 kp hT
          refine ⟨ga, _, rfl, hT6, rfl, _, _, rfl, _, _, rfl, rfl, ?_⟩
          refine ⟨_, rfl, .ref L, rfl, L, _, rfl, .inl (.inl (.inl hL6)), rfl, flat_strs (fs ++ new), _, rfl, ?_⟩
          rw [inV_strs]
          refine ite2 (fun e2 => ?_) (fun e2 => ?_)
          · have nin : n0 ∉ fs ++ new := by simpa using e2
            have few2 : (fs ++ new).length ≤ U.length := few_of nd6 fun y hy => (List.mem_append.mp hy).elim (fU y) fun h => (nw y h).1
            refine ⟨.ref L, rfl, .inl ⟨rfl, _, .inl (.inl hL6)⟩, _, rfl, L, _, _, rfl, rfl, hL6, ?_, ?_⟩
            · rw [List.length_map]
              exact small5 (by omega)
            have ea : (fs ++ new).map V.str ++ [V.str n0] = (fs ++ (new ++ [n0])).map V.str := by rw [← List.append_assoc]; exact (List.map_append (l₁ := fs ++ new) (l₂ := [n0])).symm
            rw [ea]
            refine ⟨_, _, new ++ [n0], rfl, fun b o h => by rw [upd_ne (ne_of_none h nL)]; exact s6 _ _ h, fun b o bl h => by rw [upd_ne bl]; exact kp b o bl h, upd_same, ?_, ?_, ?_, ?_⟩
            · rw [← List.append_assoc]
              refine List.nodup_append.mpr ⟨nd6, by simp, fun a ha b hb => ?_⟩
              rw [List.mem_singleton.mp hb]
              rintro rfl
              exact nin ha
            · intro y hy
              rcases List.mem_append.mp hy with h | h
              · exact nw y h
              · rw [List.mem_singleton.mp h]
                refine ⟨gU x n0 dmem, .dep (fR x xin) dmem, ?_⟩
                have low : i ≤ rank srcs x := by
                  rcases fJ x xin with h | h
                  · exact absurd (List.mem_append_left _ (h n0 dmem)) nin
                  · exact h
                have := rank_lt (srcs := srcs) htx daft
                omega
            · intro x' hx' y hy
              rw [← List.append_assoc]
              exact List.mem_append_left _ (cl x' hx' y hy)
            · intro d hd
              rw [tk2] at hd
              rw [← List.append_assoc]
              rcases List.mem_append.mp hd with h | h
              · exact List.mem_append_left _ (cd d h)
              · rw [List.mem_singleton.mp h]
                exact List.mem_append_right _ List.mem_cons_self
          · have isin : n0 ∈ fs ++ new := by
              cases h : decide (n0 ∈ fs ++ new) with
              | true => exact of_decide_eq_true h
              | false => rw [h] at e2; exact absurd rfl e2
            refine ⟨_, _, new, rfl, s6, kp, hL6, nd6, nw, cl, fun d hd => ?_⟩
            rw [tk2] at hd
            rcases List.mem_append.mp hd with h | h
            · exact cd d h
            · rw [List.mem_singleton.mp h]
              exact isin
        · rintro σ H6 ⟨y7, y8, new, rfl, s6, kp, hL6, nd6, nw, cl, cd⟩
          rw [List.length_map, lg, List.take_length] at cd
          refine ⟨_, _, _, new, rfl, s6, kp _ _ pL hp5, hL6, nd6, nw, fun x' hx' y hy => ?_⟩
          rw [tk] at hx'
          rcases List.mem_append.mp hx' with h | h
          · exact cl x' h y hy
          · rw [List.mem_singleton.mp h, en] at hy
            obtain ⟨d, hd, rfl⟩ := List.mem_map.mp hy
            exact cd d hd
      · rintro σ H4 ⟨y6, y7, y8, new, rfl, s4, hp4, hL4, nd4, nw, cl⟩
        rw [List.length_map, List.take_length] at cl
        refine ⟨_, _, _, _, fs ++ new, rfl, s4, hL4, nd4, fun x hx => ?_, fun x hx => ?_, fun x hx => List.mem_append_left _ (fP x hx), fun x hx => ?_⟩
        · exact (List.mem_append.mp hx).elim (fU x) fun h => (nw x h).1
        · exact (List.mem_append.mp hx).elim (fR x) fun h => (nw x h).2.1
        · exact (List.mem_append.mp hx).elim (fun h => .inl (cl x h)) fun h => .inr (nw x h).2.2
    · rintro σ H3 ⟨y5, y6, y7, y8, fs, rfl, s3, hL, nd1, fU, fR, fP, fJ⟩
      refine ⟨.ref L, rfl, L, fs, rfl, .inl (.inl hL), fun ys p perm srt np => ?_⟩
      have ndy : ys.Nodup := perm.nodup_iff.mpr nd1
      have er : ys = rise ys := rise_same srt ndy fun k => Iff.rfl
      have sA := s3
      refine q _ p ys (sA.trans (same_new np)) ?_ upd_same (by rw [er]; exact rise_rise _) fun x => ?_
      · cases w : H p with
        | none => rfl
        | some v => rw [sA _ _ w] at np; cases np
      · rw [perm.mem_iff]
        refine ⟨fR x, reach_all fP fun x hx => ?_⟩
        rcases fJ x hx with h | h
        · exact h
        · have := rank_le srcs x
          omega
end
end K07

namespace K07
open PySem PySem.Spec PyProof.Rows L2 Pg
/-! ### no result has an l in its characters -/
def NoL (z : Str) : Prop := ∀ c ∈ cd z, c ≠ 108
theorem nol_app {x y : Str} (a : NoL x) (b : NoL y) : NoL (x ++ y) := fun c hc => by
  rw [cd_app] at hc
  exact (List.mem_append.mp hc).elim (a c) (b c)
theorem nol_lit {z : Str} (h : (cd z).all (fun c => decide (c ≠ 108)) = true) : NoL z := fun c hc => of_decide_eq_true (List.all_eq_true.mp h c hc)
theorem safe_nol {z : Str} (h : Safe z) : NoL z := fun c hc => by
  have := (Bool.and_eq_true_iff.mp (h c hc)).2
  exact of_decide_eq_true (Bool.and_eq_true_iff.mp this).2
def RNol : Res → Prop
  | .text c _ => NoL c
  | _ => True
theorem chars_nol {r : Res} (h : RNol r) : NoL (chars r) := by
  cases r with
  | text c ls => exact h
  | failed n => exact fun c hc => (by cases hc)
  | long n => exact fun c hc => (by cases hc)
theorem join_nol {nm : Str} {l : List Seg} {fs : List Res} (h : Fits nm l fs) (own : ∀ s ∈ l, NoL s.2) (all : ∀ r ∈ fs, RNol r) : NoL (joinN nm l fs).1 := by
  induction h with
  | nil => exact fun c hc => (by cases hc)
  | @text s l fs e r ih =>
    have i1 := ih (fun s hs => own s (List.mem_cons_of_mem _ hs)) all
    rw [join_step, if_pos e]
    exact nol_app (own _ List.mem_cons_self) i1
  | @link s l fs e r ih =>
    have i1 := ih (fun s hs => own s (List.mem_cons_of_mem _ hs)) all
    rw [join_step, e, if_neg k_lt, if_pos rfl]
    exact nol_app (nol_app (nol_app (nol_lit (by decide +kernel)) (own _ List.mem_cons_self)) (nol_lit (by decide +kernel))) i1
  | @inc s l fs c ls e r ih =>
    have i1 := ih (fun s hs => own s (List.mem_cons_of_mem _ hs)) fun r hr => all r (List.mem_cons_of_mem _ hr)
    rw [join_step, e, if_neg k_it, if_neg k_il]
    simp only [if_neg k_ii]
    exact nol_app (chars_nol (all _ List.mem_cons_self)) i1
  | @ind0 s l fs c ls e n r ih =>
    have i1 := ih (fun s hs => own s (List.mem_cons_of_mem _ hs)) fun r hr => all r (List.mem_cons_of_mem _ hr)
    rw [join_step, e, if_neg k_dt, if_neg k_dl]
    simp only [if_true, n]
    exact nol_app (nol_lit (by decide +kernel)) i1
  | @ind1 s l fs c y d ls ms e n r ih =>
    have i1 := ih (fun s hs => own s (List.mem_cons_of_mem _ hs)) fun r hr => all r (List.mem_cons_of_mem _ (List.mem_cons_of_mem _ hr))
    rw [join_step, e, if_neg k_dt, if_neg k_dl]
    simp only [if_true, n]
    exact nol_app (chars_nol (all _ (List.mem_cons_of_mem _ List.mem_cons_self))) i1
theorem rendered_nol {nm t : Str} {att : Int} {fs : List Res} (ht : NoL t) (fit : (∀ r ∈ fs, isText r = true) → Fits nm (segs nameB (aft nm) t 0 0) fs) (all : ∀ r ∈ fs, RNol r) : RNol (renderedN nm t att fs) := by
  unfold renderedN
  split
  · exact trivial
  · split
    · rename_i r e
      exact all r (List.mem_of_find?_eq_some e)
    · rename_i e
      have allr : ∀ r ∈ fs, isText r = true := fun r hr => by
        have := List.find?_eq_none.mp e r hr
        simpa using this
      have fineS := segs_fine nameB (aft nm) t t.length 0 0 rfl (Nat.le_refl _) (Nat.zero_le _)
      have j1 := join_nol (fit allr) (fun s hs c hc => ht c ((fineS s hs).2.2 c hc)) all
      unfold joinedN
      split
      · exact trivial
      · exact j1
/-! ### what is told, all of it known, as dependencies -/
def unk (l : List (Str × Option Res)) : List Str := (l.filter fun d => d.2.isNone).map Prod.fst
theorem unk_nil : ∀ l : List (Str × Option Res), decide (unk l = []) = allK l
  | [] => rfl
  | d :: r => by
    have ih := unk_nil r
    unfold unk allK at *
    rw [List.filter_cons, List.all_cons]
    cases e : d.2 with
    | none => rfl
    | some x =>
      simp only [Option.isNone_some, Option.isSome_some, Bool.true_and]
      exact ih
theorem told_known {R : Str → Option Res} {nm : Str} : ∀ {l : List Seg}, allK (toldN R nm l) = true → toldN R nm l = toldN (fun n => some ((R n).getD nothing)) nm l
  | [], _ => rfl
  | s :: l, h => by
    have e1 : ∀ R : Str → Option Res, toldN R nm (s :: l) = told1 R nm s ++ toldN R nm l := fun R => by unfold toldN; rw [List.flatMap_cons]
    rw [e1] at h
    rw [e1, e1]
    unfold allK at h
    rw [List.all_append, Bool.and_eq_true] at h
    rw [← told_known (l := l) h.2]
    congr 1
    have h1 := h.1
    unfold told1 at h1 ⊢
    by_cases k1 : s.1 = "include"
    · rw [if_pos k1] at h1
      rw [if_pos k1, if_pos k1]
      have h1 : (R s.2).isSome = true := List.all_eq_true.mp h1 _ List.mem_cons_self
      obtain ⟨r, hr⟩ := Option.isSome_iff_exists.mp h1
      show [(s.2, R s.2)] = [(s.2, some ((R s.2).getD nothing))]
      rw [hr]
      rfl
    · rw [if_neg k1] at h1
      rw [if_neg k1, if_neg k1]
      by_cases k2 : s.1 = "indirect"
      · rw [if_pos k2] at h1
        rw [if_pos k2, if_pos k2]
        have h2 : (R s.2).isSome = true := List.all_eq_true.mp h1 _ List.mem_cons_self
        obtain ⟨r, hr⟩ := Option.isSome_iff_exists.mp h2
        have eb : (R s.2).bind (leads nm) = leads nm r := by rw [hr]; rfl
        have eb2 : (some ((R s.2).getD nothing)).bind (leads nm) = leads nm r := by rw [hr]; rfl
        rw [eb] at h1
        have e0 : R s.2 = some ((R s.2).getD nothing) := by rw [hr]; rfl
        rw [eb, show (some ((R s.2).getD nothing)).bind (leads nm) = leads nm r from eb2]
        cases hl : leads nm r with
        | none =>
          show [(s.2, R s.2)] = [(s.2, some ((R s.2).getD nothing))]
          rw [← e0]
        | some c =>
          rw [hl] at h1
          have h3 : (R c).isSome = true := List.all_eq_true.mp h1 _ (List.mem_cons_of_mem _ List.mem_cons_self)
          obtain ⟨r2, hr2⟩ := Option.isSome_iff_exists.mp h3
          have e3 : R c = some ((R c).getD nothing) := by rw [hr2]; rfl
          show [(s.2, R s.2), (c, R c)] = [(s.2, some ((R s.2).getD nothing)), (c, some ((R c).getD nothing))]
          rw [← e0, ← e3]
      · rw [if_neg k2, if_neg k2]
theorem told_deps {R : Str → Option Res} {nm : Str} {l : List Seg} (h : allK (toldN R nm l) = true) : toldN R nm l = (depsN (fun n => (R n).getD nothing) nm l).map fun d => (d.1, some d.2) := by
  rw [told_known h, told_some]
end K07

namespace K07
open PySem PySem.Spec PyProof.Rows L2 Pg
theorem Drew.keepT {K : PySem.W.Frag} {b : Addr} {H H' : Hp} (x : Drew b H H') (hb : Box H b) : KeepT K H H' := by
  obtain ⟨dg, ds, n, h1, h2, _⟩ := hb
  rintro a xs ((h | ⟨o, h⟩) | h)
  · exact .inl (.inl (x.keep a _ (by rintro rfl; rw [h1] at h; cases h) h))
  · exact .inl (.inr ⟨o, x.keep a _ (by rintro rfl; rw [h1] at h; cases h) h⟩)
  · exact .inr h
/-- neither a list nor a tuple -/
def Odd (H : Hp) (x : Addr) : Prop := (∀ xs, H x ≠ some (.lst xs)) ∧ (∀ xs, H x ≠ some (.tup xs)) ∧ ∀ b xs, H x ≠ some (.frz b (.tup xs))
theorem odd_d {H : Hp} {x : Addr} {kvs : List (Key × V)} (h : H x = some (.dK kvs)) : Odd H x := ⟨fun xs => (by rw [h]; intro z; cases z), fun xs => (by rw [h]; intro z; cases z), fun b xs => (by rw [h]; intro z; cases z)⟩
theorem odd_i {H : Hp} {x : Addr} {C dx : Addr} {fs : List (Str × V)} (h : H x = some (.ins C dx fs)) : Odd H x := ⟨fun xs => (by rw [h]; intro z; cases z), fun xs => (by rw [h]; intro z; cases z), fun b xs => (by rw [h]; intro z; cases z)⟩
/-- all but x is as it was -/
def But (x : Addr) (H H' : Hp) : Prop := ∀ q o, H q = some o → q ≠ x → H' q = some o
theorem But.keepT {K : PySem.W.Frag} {x : Addr} {H H' : Hp} (b : But x H H') (o : Odd H x) : KeepT K H H' := by
  rintro a xs ((h | ⟨c, h⟩) | h)
  · exact .inl (.inl (b a _ h (by rintro rfl; exact o.2.1 _ h)))
  · exact .inl (.inr ⟨c, b a _ h (by rintro rfl; exact o.2.2 _ _ h)⟩)
  · exact .inr h
theorem RowsAt.lst {K : PySem.W.Frag} {H : Hp} {kvs : List (Str × Addr)} {cs : List (Str × List Row)} (r : RowsAt K H kvs cs) {a : Str × Addr} (ha : a ∈ kvs) : ∃ (vs : List V) (rs : List Row), H a.2 = some (.lst vs) ∧ DpAll K H vs (rs.map Row.d) := by
  obtain ⟨i, hi⟩ := List.getElem?_of_mem ha
  obtain ⟨b, _, _, vs, hb, hd⟩ := r.at_ hi
  exact ⟨vs, b.2, hb, hd⟩
theorem RowsAt.but {K : PySem.W.Frag} {x : Addr} {H H' : Hp} {kvs : List (Str × Addr)} {cs : List (Str × List Row)} (r : RowsAt K H kvs cs) (f : CFine cs) (b : But x H H') (o : Odd H x) : RowsAt K H' kvs cs :=
  r.keep f (b.keepT o) fun a ha o' e => by
    obtain ⟨vs, _, hv, _⟩ := r.lst ha
    exact b _ _ e (by rintro rfl; exact o.1 _ hv)
theorem CAt.but {K : PySem.W.Frag} {C x p d : Addr} {H H' : Hp} {cs : List (Str × List Row)} (c : CAt K C H p d cs) (b : But x H H') (o : Odd H x) (n1 : p ≠ x) (n2 : d ≠ x) : CAt K C H' p d cs :=
  let ⟨dx, kvs, h1, h2, h3, h4, h5⟩ := c
  ⟨dx, kvs, b _ _ h1 n1, b _ _ h2 n2, h3.but h4 b o, h4, h5⟩
theorem Box.but {x b : Addr} {H H' : Hp} (h : Box H b) (k : But x H H') (o : Odd H x) : Box H' b := by
  obtain ⟨dg, ds, n, h1, h2, h3, h4⟩ := h
  exact ⟨dg, ds, n, k _ _ h1 (by rintro rfl; exact o.1 _ h1), k _ _ h2 (by rintro rfl; exact o.1 _ h2), h3, h4⟩
/-- no list of renderings is the box -/
theorem rows_box {K : PySem.W.Frag} {b : Addr} {H : Hp} (hb : Box H b) {vs : List V} {rs : List Row} {a : Addr} (h : H a = some (.lst vs)) (d : DpAll K H vs (rs.map Row.d)) : a ≠ b := by
  rintro rfl
  obtain ⟨dg, ds, n, h1, _⟩ := hb
  rw [h1] at h
  cases h
  match rs, d with
  | _ :: y :: _, .cons _ (.cons d _) => cases d
theorem RowsAt.drew {K : PySem.W.Frag} {b : Addr} {H H' : Hp} {kvs : List (Str × Addr)} {cs : List (Str × List Row)} (r : RowsAt K H kvs cs) (f : CFine cs) (x : Drew b H H') (hb : Box H b) : RowsAt K H' kvs cs :=
  r.keep f (x.keepT hb) fun a ha o' e => by
    obtain ⟨vs, rs, hv, hd⟩ := r.lst ha
    exact x.keep _ _ (rows_box hb hv hd) e
theorem CAt.drew {K : PySem.W.Frag} {C b p d : Addr} {H H' : Hp} {cs : List (Str × List Row)} (c : CAt K C H p d cs) (x : Drew b H H') (hb : Box H b) : CAt K C H' p d cs :=
  let ⟨dx, kvs, h1, h2, h3, h4, h5⟩ := c
  ⟨dx, kvs, x.keep _ _ (by rintro rfl; obtain ⟨_, _, _, h, _⟩ := hb; rw [h] at h1; cases h1) h1, x.keep _ _ (by rintro rfl; obtain ⟨_, _, _, h, _⟩ := hb; rw [h] at h2; cases h2) h2, h3.drew h4 x hb, h4, h5⟩
/-! ### all but one dict stays -/
structure Off (dc : Addr) (H H' : Hp) : Prop where
  keep : ∀ b o, H b = some o → b ≠ dc → H' b = some o
  dic : ∃ kv, H dc = some (.dK kv)
theorem Off.lst {dc a : Addr} {H H' : Hp} {xs : List V} (f : Off dc H H') (e : H a = some (.lst xs)) : H' a = some (.lst xs) := by
  obtain ⟨kv, h⟩ := f.dic
  exact f.keep _ _ e (ne_of e h (by intro z; cases z))
theorem Off.keepT {K : PySem.W.Frag} {dc : Addr} {H H' : Hp} (f : Off dc H H') : KeepT K H H' := by
  obtain ⟨kv, h⟩ := f.dic
  rintro a xs ((e | ⟨o, e⟩) | e)
  · exact .inl (.inl (f.keep _ _ e (ne_of e h (by intro z; cases z))))
  · exact .inl (.inr ⟨o, f.keep _ _ e (ne_of e h (by intro z; cases z))⟩)
  · exact .inr e
theorem Off.box {dc b d : Addr} {H H' : Hp} (f : Off dc H H') (x : BoxAt H b d) : BoxAt H' b d := by
  obtain ⟨ds, n, e1, e2, r⟩ := x
  exact ⟨ds, n, f.lst e1, f.lst e2, r⟩
theorem resAt_keepT {K : PySem.W.Frag} {H H' : Hp} {t : Addr} {r : Res} (k : KeepT K H H') (h : ResAt K H t r) : ResAt K H' t r := by
  cases r with
  | text c ls => exact let ⟨l, h1, h2⟩ := h; ⟨l, k _ _ h1, k _ _ h2⟩
  | failed n => exact k _ _ h
  | long n => exact k _ _ h
theorem ov_keepT {K : PySem.W.Frag} {H H' : Hp} {v : V} {o : Option Res} (k : KeepT K H H') (h : OV K H v o) : OV K H' v o := by
  cases o with
  | none => exact h
  | some r => exact let ⟨t, e, h⟩ := h; ⟨t, e, resAt_keepT k h⟩
theorem Off.tdeps {K : PySem.W.Frag} {dc p : Addr} {H H' : Hp} {l : List (Str × Option Res)} (f : Off dc H H') (h : TDeps K H p l) : TDeps K H' p l :=
  let ⟨ts, h1, h2⟩ := h
  ⟨ts, f.lst h1, Paired.mapP h2 fun _ _ ⟨v, a, b⟩ => ⟨v, f.keepT _ _ a, ov_keepT f.keepT b⟩⟩
theorem Off.dres {K : PySem.W.Frag} {dc D : Addr} {H H' : Hp} {kn : List (Str × (Addr × Res))} (f : Off dc H H') (n : D ≠ dc) (h : DictRes K H D kn) : DictRes K H' D kn :=
  ⟨f.keep _ _ h.1 n, fun p hp => ⟨resAt_keepT f.keepT (h.2 p hp).1, (h.2 p hp).2⟩⟩
theorem cat_dic {K : PySem.W.Frag} {C p d : Addr} {H : Hp} {cs : List (Str × List Row)} (c : CAt K C H p d cs) : ∃ kv, H d = some (.dK kv) := let ⟨_, _, _, h, _⟩ := c; ⟨_, h⟩
/-- the box and the cache's dict aside, all is as it was -/
structure Chg (b dc : Addr) (H H' : Hp) : Prop where
  keep : ∀ p o, p ≠ b → p ≠ dc → H p = some o → H' p = some o
theorem Chg.same {b dc : Addr} {H H1 H2 : Hp} (c : Chg b dc H H1) (s : Same H1 H2) : Chg b dc H H2 := ⟨fun p o n1 n2 e => s _ _ (c.keep p o n1 n2 e)⟩
theorem Chg.drew {b dc : Addr} {H H1 H2 : Hp} (c : Chg b dc H H1) (d : Drew b H1 H2) : Chg b dc H H2 := ⟨fun p o n1 n2 e => d.keep _ _ n1 (c.keep p o n1 n2 e)⟩
theorem Chg.off {b dc : Addr} {H H1 H2 : Hp} (c : Chg b dc H H1) (f : Off dc H1 H2) : Chg b dc H H2 := ⟨fun p o n1 n2 e => f.keep _ _ (c.keep p o n1 n2 e) n2⟩
/-! ### what is not known of a row of dependencies -/
theorem lc_unk {K : PySem.W.Frag} {p : Addr} {l : List (Str × Option Res)} {g : TG} {tt : TT} {te : TE} {vs : List Nat} {σ : L2.St} {H1 : Hp} {D : Addr} {Qd : Hp → Prop} {ts : List Addr} (hp : H1 p = some (.lst (ts.map V.ref))) (pr : Paired (TDep K H1) ts l) (nD : H1 D = none) (few : l.length ≤ 10000)
    (hs : ∀ (a : Addr) (x : Str) (v : V) (H : Hp) (R : V → Hp → Prop) (S : Hp → Prop), SqT K H a [.str x, v] → (v = .non → R (.str x) H) → (v ≠ .non → S H) →
      g (.ref a) (wipe σ vs) H fun σ2 H2 => wipe σ2 vs = wipe σ vs ∧ tt σ2 H2 fun b H3 => if b = true then te σ2 H3 R else S H3) (hd : Qd (upd H1 D (.lst ((unk l).map V.str)))) :
    ∃ W : Nat → Nat → Hp → Prop, (∃ m, W 0 m (upd H1 D (.lst []))) ∧ ∀ i m H, W i m H → ((Itl K p).stop i H ∧ Qd H) ∨
      ((Itl K p).go i H ∧ ∃ Nx : Hp → Prop, (∀ H', Nx H' → ∃ m', m' < m ∧ W (i + 1) m' H') ∧ ∀ x H', (Itl K p).yld i H x H' →
        g x (wipe σ vs) H' fun σ2 H2 => wipe σ2 vs = wipe σ vs ∧ tt σ2 H2 fun b H3 => if b = true then te σ2 H3 fun y H4 => ∃ acc, H4 D = some (.lst acc) ∧ acc.length < sizeLine ∧ Nx (upd H4 D (.lst (acc ++ [y]))) else Nx H3) := by
  have lt := paired_len pr
  refine lc_list (K := K) (a := p) (xs := ts.map V.ref) (fun i H => H = upd H1 D (.lst ((unk (l.take i)).map V.str))) rfl (fun i H _ e => by rw [e]; exact .inl (.inl (same_new nD _ _ hp))) ?_ ?_
  · rintro i y H hy rfl
    obtain ⟨a, ha, rfl⟩ : ∃ a, ts[i]? = some a ∧ y = V.ref a := by
      rw [List.getElem?_map] at hy
      cases e : ts[i]? with
      | none => rw [e] at hy; cases hy
      | some a => rw [e] at hy; exact ⟨a, rfl, (Option.some.inj hy).symm⟩
    have hi : i < l.length := by rw [← lt]; exact (List.getElem?_eq_some_iff.mp ha).1
    have hl : l[i]? = some l[i] := List.getElem?_eq_getElem hi
    obtain ⟨a', ha', v, hv, ov⟩ := paired_at pr hl
    obtain rfl : a = a' := Option.some.inj (ha.symm.trans ha')
    have tk : unk (l.take (i + 1)) = unk (l.take i) ++ unk [l[i]] := by
      unfold unk
      rw [List.take_add_one, hl, List.filter_append, List.map_append]
      rfl
    generalize l[i] = d at *
    refine hs a d.1 v _ _ _ (seqT_same (same_new nD) hv) (fun e => ?_) (fun e => ?_)
    · have dn : d.2 = none := by
        cases h : d.2 with
        | none => rfl
        | some r =>
          rw [h] at ov
          obtain ⟨t, e2, _⟩ := ov
          rw [e] at e2
          cases e2
      have u1 : unk [d] = [d.1] := by
        unfold unk
        rw [List.filter_cons, dn]
        rfl
      refine ⟨_, upd_same, ?_, ?_⟩
      · rw [List.length_map]
        unfold unk
        rw [List.length_map]
        have h1 := List.length_filter_le (fun d : Str × Option Res => d.2.isNone) (l.take i)
        rw [List.length_take] at h1
        exact small5 (by omega)
      · rw [upd_upd, tk, u1, List.map_append]
        rfl
    · have dn : d.2.isNone = false := by
        cases h : d.2 with
        | none =>
          rw [h] at ov
          exact absurd ov e
        | some r => rfl
      have u1 : unk [d] = [] := by
        unfold unk
        rw [List.filter_cons, dn]
        rfl
      rw [tk, u1, List.append_nil]
  · rintro H rfl
    rw [List.length_map, lt, List.take_length]
    exact hd
theorem eqv_strs : ∀ xs : List Str, PyData.eqv (.list (xs.map PyData.str)) (.list []) = decide (xs = [])
  | [] => rfl
  | _ :: _ => rfl
theorem unk_names {l : List (Str × Option Res)} (h : ∀ d ∈ l, nameB d.1 = true) : ∀ x ∈ unk l, x.length ≤ 6 ∧ Codes x := fun x hx => by
  obtain ⟨d, hd, rfl⟩ := List.mem_map.mp hx
  have := h d (List.mem_filter.mp hd).1
  exact ⟨name_len this, name_codes this⟩
theorem unk_shaped {l : List (Str × Option Res)} (h : ∀ d ∈ l, nameB d.1 = true) : SeqAt.shaped (.list ((unk l).map PyData.str)) = true :=
  ((strs_sz (unk_names h) (Nat.le_refl _)).lst).shaped (by decide)
/-! ### one more rendering in a cache -/
theorem rows_add {cs : List (Str × List Row)} {x : Row} {k : Str} (h : k ≠ x.n) : rowsC (addC cs x) k = rowsC cs k := by
  unfold rowsC addC
  rw [get_put, if_neg h]
theorem rows_add_new {cs : List (Str × List Row)} {x : Row} (h : rowsC cs x.n = []) : rowsC (addC cs x) x.n = [x] := by
  unfold addC
  rw [h]
  unfold rowsC
  rw [get_put, if_pos rfl]
  rfl
theorem find_hit {x : Row} {t : Str} {fs : List PyData} (h1 : x.t = t) (h2 : x.fs = fs) (nb : noBAll fs = true) : findC [x] t fs = x.r := by
  unfold findC
  rw [List.find?_cons, h1, h2]
  have : PyData.eqv (.tuple [.str t, .tuple fs]) (.tuple [.str t, .tuple fs]) = true := (eqv_iff _ _ (by simp only [noB, noBAll, nb, Bool.and_true]) (by simp only [noB, noBAll, nb, Bool.and_true])).mpr rfl
  rw [this]
  rfl
theorem find_miss {x : Row} {t : Str} {fs : List PyData} (h : x.t ≠ t ∨ x.fs ≠ fs) (nx : noBAll x.fs = true) (nb : noBAll fs = true) : findC [x] t fs = .none := by
  unfold findC
  have : PyData.eqv (.tuple [.str x.t, .tuple x.fs]) (.tuple [.str t, .tuple fs]) = false := by
    rw [Bool.eq_false_iff]
    intro e
    have e := (eqv_iff _ _ (by simp only [noB, noBAll, nx, Bool.and_true]) (by simp only [noB, noBAll, nb, Bool.and_true])).mp e
    injection e with e
    injection e with e1 e
    injection e with e2 _
    injection e1 with e1
    injection e2 with e2
    rcases h with h | h
    · exact h e1
    · exact h e2
  rw [List.find?_cons, this]
  rfl
theorem rowsRes_add {cs : List (Str × List Row)} {x : Row} (h : RowsRes cs) (hr : ∃ r, x.r = resD r ∧ Rok r) : RowsRes (addC cs x) := by
  intro k y hy
  by_cases e : k = x.n
  · rw [e] at hy
    unfold rowsC addC at hy
    rw [get_put, if_pos rfl] at hy
    have hy : y ∈ (x :: (rowsC cs x.n).filter fun y => !PyData.eqv y.d x.d).take 4 := hy
    rcases List.mem_cons.mp (List.mem_of_mem_take hy) with rfl | h2
    · exact hr
    · exact h x.n y (List.mem_filter.mp h2).1
  · rw [rows_add e] at hy
    exact h k y hy
theorem len_add (cs : List (Str × List Row)) (x : Row) : (addC cs x).length ≤ cs.length + 1 := len_put _ _ _
def elder : Res := .text "elder" []
theorem elder_ok : Rok elder := ⟨⟨by decide +kernel, by decide, by intro x hx; cases hx⟩, lit_codes (by decide +kernel), by intro x hx; cases hx⟩
def oldR : Res := .text "old" []
theorem old_ok : Rok oldR := ⟨⟨by decide +kernel, by decide, by intro x hx; cases hx⟩, lit_codes (by decide +kernel), by intro x hx; cases hx⟩
theorem not_elder {r : Res} (h : RNol r) : r ≠ elder := by
  rintro rfl
  have := h 108 (by decide +kernel)
  exact this rfl
theorem row_pd {n t : Str} {l : List (Str × Option Res)} {r : Res} (hn : n.length ≤ 6 ∧ Codes n) (ht : t.length ≤ 100 ∧ Codes t) (k : allK l = true) (few : l.length ≤ 250) (ok : ∀ d ∈ l, (d.1.length ≤ 6 ∧ Codes d.1) ∧ ∀ r, d.2 = some r → Rok r) (hr : Rok r) :
    Pd 6 5000000 (Row.d ⟨n, t, l.map depO, resD r⟩) := by
  have a := (told_pd k few ok).tup
  have b := (Pd.str hn.2 hn.1).mono (Nat.zero_le 4) (Nat.le_refl _)
  have c := (Pd.str ht.2 ht.1).mono (Nat.zero_le 4) (Nat.le_refl _)
  have d := (res_pd hr).mono (show 2 ≤ 4 by decide) (Nat.le_refl _)
  exact ((PdA.cons b (PdA.cons c (PdA.cons a (PdA.cons d .nil)))).tup).mono (by decide) (by decide)
end K07

namespace K07
open PySem PySem.Spec PyProof.Rows L2 Pg
/-- results that are known are small, of the sources' links and signs -/
def GoodK (kn : List (Str × (Addr × Res))) (srcs : List (Str × Str)) : Prop := ∀ p ∈ kn, (p.2.2.small ∧ Within (allLinks srcs) p.2.2) ∧ RCodes p.2.2 ∧ RNol p.2.2
theorem GoodK.at {kn : List (Str × (Addr × Res))} {srcs : List (Str × Str)} (h : GoodK kn srcs) {n : Str} {r : Res} (e : lawK kn srcs n = some r) : (r.small ∧ Within (allLinks srcs) r) ∧ RCodes r ∧ RNol r := by
  unfold lawK at e
  cases g : getS srcs n with
  | none =>
    rw [g] at e
    rw [← Option.some.inj e]
    exact ⟨⟨rok_nothing.1, List.nodup_nil, by intro x hx; cases hx⟩, rok_nothing.2, nol_lit (by decide +kernel)⟩
  | some t =>
    rw [g] at e
    cases g2 : getS kn n with
    | none => rw [g2] at e; cases e
    | some p =>
      rw [g2] at e
      rw [← Option.some.inj e]
      exact h _ (get_some g2)
def segsOf (nm t : Str) : List Seg := segs nameB (aft nm) t 0 0
def spFilled (K : PySem.W.Frag) (C : Addr) : Sp := fun vs H Q _ => ∃ (b c dc D : Addr) (srcs : List (Str × Str)) (att : Int), vs = [.ref b, .ref c, .ref D, .int att] ∧ Box H b ∧ CAt K C H c dc [] ∧ DictS H D srcs ∧ SrcOk srcs ∧ (∀ p ∈ srcs, NoL p.2 ∧ Codes p.1) ∧ D ≠ dc ∧
  ∀ (H' : Hp) (G : Addr) (kn : List (Str × (Addr × Res))) (cs : List (Str × List Row)), Chg b dc H H' → Box H' b → H G = none → G ≠ dc → DictRes K H' G kn → GoodK kn srcs → CAt K C H' c dc cs → RowsRes cs → Knows cs srcs (lawK kn srcs) → cs.length ≤ 12 → Q (.ref G) H'
/-- one rendering that is not the right one -/
def Miss (cs cs' : List (Str × List Row)) (nm t : Str) (fs : List PyData) : Prop := ∃ x : Row, cs' = addC cs x ∧ x.n = nm ∧ noBAll x.fs = true ∧ (x.t ≠ t ∨ x.fs ≠ fs)
/-- the state amid a turn -/
structure FS (K : PySem.W.Frag) (C b dc dg c p2 G Fa : Addr) (H H' : Hp) (zs : List Str) (kn : List (Str × (Addr × Res))) (ts : List Addr) (l : List (Str × Option Res)) (cs : List (Str × List Row)) : Prop where
  ch : Chg b dc H H'
  bx : BoxAt H' b dg
  hp : H' p2 = some (.lst (zs.map V.str))
  hR : DictRes K H' G kn
  hF : H' Fa = some (.lst (ts.map V.ref))
  pr : Paired (TDep K H') ts l
  ca : CAt K C H' c dc cs
  rr : RowsRes cs
theorem FS.same {K : PySem.W.Frag} {C b dc dg c p2 G Fa : Addr} {H H1 H2 : Hp} {zs : List Str} {kn : List (Str × (Addr × Res))} {ts : List Addr} {l : List (Str × Option Res)} {cs : List (Str × List Row)} (f : FS K C b dc dg c p2 G Fa H H1 zs kn ts l cs) (s : Same H1 H2) : FS K C b dc dg c p2 G Fa H H2 zs kn ts l cs :=
  ⟨f.ch.same s, f.bx.same s, s _ _ f.hp, ⟨s _ _ f.hR.1, fun p hp => ⟨(f.hR.2 p hp).1.same s, (f.hR.2 p hp).2⟩⟩, s _ _ f.hF, Paired.mapP f.pr fun _ _ x => x.same s, f.ca.same s, f.rr⟩
theorem FS.add {K : PySem.W.Frag} {C b dc dg c p2 G Fa : Addr} {H H1 H2 : Hp} {zs : List Str} {kn : List (Str × (Addr × Res))} {ts : List Addr} {l : List (Str × Option Res)} {cs : List (Str × List Row)} {x : Row} (f : FS K C b dc dg c p2 G Fa H H1 zs kn ts l cs) (ne : G ≠ dc)
    (ca : CAt K C H2 c dc (addC cs x)) (kp : ∀ b o, H1 b = some o → b ≠ dc → H2 b = some o) (hr : ∃ r, x.r = resD r ∧ Rok r) : FS K C b dc dg c p2 G Fa H H2 zs kn ts l (addC cs x) :=
  have o : Off dc H1 H2 := ⟨kp, cat_dic f.ca⟩
  ⟨f.ch.off o, o.box f.bx, o.lst f.hp, o.dres ne f.hR, o.lst f.hF, Paired.mapP f.pr fun _ _ ⟨v, a, b⟩ => ⟨v, o.keepT _ _ a, ov_keepT o.keepT b⟩, ca, rowsRes_add f.rr hr⟩
theorem FS.data {K : PySem.W.Frag} {C b dc dg c p2 G Fa : Addr} {H H1 : Hp} {zs : List Str} {kn : List (Str × (Addr × Res))} {ts : List Addr} {l : List (Str × Option Res)} {cs : List (Str × List Row)} (f : FS K C b dc dg c p2 G Fa H H1 zs kn ts l cs) (k : allK l = true) : DpAll K H1 (ts.map V.ref) (l.map depO) := by
  obtain ⟨vs, h1, h2⟩ := tdeps_lat (p := Fa) ⟨ts, f.hF, f.pr⟩ k
  rw [f.hF] at h1
  cases h1
  exact h2
theorem eqv_nilL : ∀ ds : List PyData, PyData.eqv (.list ds) (.list []) = decide (ds = [])
  | [] => rfl
  | _ :: _ => rfl
theorem dp_old {K : PySem.W.Frag} {H : Hp} {o e : Addr} {z : Str} (h : H o = some (.tup [.str "text", .str z, .ref e])) (he : H e = some (.tup [])) : Dp K H (.ref o) (resD (.text z [])) :=
  .tup (.inl (.inl h)) (.cons (.str _) (.cons (.str _) (.cons (.tup (.inl (.inl he)) .nil) .nil)))
theorem sqt_at {K : PySem.W.Frag} {H : Hp} {p : Addr} {xs ys : List V} (h : H p = some (.tup xs)) (e : xs = ys) : SqT K H p ys := e ▸ .inl (.inl h)
theorem sqt_new {K : PySem.W.Frag} {H : Hp} {p : Addr} {xs : List V} (_ : H p = none) : SqT K (upd H p (.tup xs)) p xs := .inl (.inl upd_same)
theorem dp_elder {K : PySem.W.Frag} {H : Hp} {q o e : Addr} {n : Str} (h : H q = some (.tup [.str n, .ref o])) (ho : H o = some (.tup [.str "text", .str "elder", .ref e])) (he : H e = some (.tup [])) : Dp K H (.ref q) (depO (n, some elder)) :=
  .tup (.inl (.inl h)) (.cons (.str _) (.cons (dp_old ho he) .nil))
theorem dpAll_tail {K : PySem.W.Frag} {H : Hp} {v : V} {vs : List V} {d : PyData} {ds : List PyData} (h : DpAll K H (v :: vs) (d :: ds)) : DpAll K H vs ds := by
  cases h with
  | cons _ r => exact r
theorem lawK_put {kn : List (Str × (Addr × Res))} {srcs : List (Str × Str)} {nm n : Str} {v : Addr × Res} (h : n ≠ nm) : lawK (putS kn nm v) srcs n = lawK kn srcs n := by
  unfold lawK
  rw [get_put, if_neg h]
section
variable {P : Program} {w : World} {K : PySem.W.Frag} {mg : Str → Option Value} {base : Heap} {f nA CCache : Addr} {fd : FuncData}
theorem ok_law_filled (F : Fun K "_law_filled" "_law_filled" s_law_filled f fd) (z : Z mg) (claw_draw : Cal P w K mg base "_law_draw" 1 ["box", "many"] spDraw)
    (claw_rendered : Cal P w K mg base "_law_rendered" 5 ["name", "text", "attempts", "found"] (spRendered K)) (claw_told : Cal P w K mg base "_law_told" 4 ["known", "sources", "name"] (spToldL K))
    (cCache_add : CalM P w K mg base CCache "add" 2 ["self", "rendering"] (spCAdd K CCache)) : FnOk P w K mg base CX0 6 f fd ["box", "cache", "sources", "attempts"] (spFilled K CCache) := by
  refine F.ok sc_law_filled (fun vs H Q E h => ?_) (fun cdv A outer s H vs Q E hr h => ?_)
  · obtain ⟨b, c, dc, D, srcs, att, rfl, _⟩ := h
    rfl
  · obtain ⟨b, c, dc, D, srcs, att, rfl, hb, ca0, hD, ⟨nd, few, ok⟩, txt, Ddc, q⟩ := h
    refine ⟨_, (pss_cons (ps_set (i := 4) sc_law_filled.nd rfl (Or.inl rfl) pe_dnewK)
      (pss_cons (ps_for PassesOwn.never rfl (pi_list (pe_revL (pe_callB (cr_sortedDA rfl) (by rfl) z.sorted (by decide +kernel) (pa_cons (pv 2) pa_nil)))) (pg_name (i := 5) sc_law_filled.nd rfl (Or.inl rfl))
        (pss_cons (ps_set (i := 6) sc_law_filled.nd rfl (Or.inl rfl) (pe_cal claw_told (hr.mono (by decide)) (by rfl) (pa_cons (pv 4) (pa_cons (pv 2) (pa_cons (pv 5) pa_nil)))))
        (pss_cons (ps_set (i := 7) sc_law_filled.nd rfl (Or.inl rfl) (pe_cal claw_draw (hr.mono (by decide)) (by rfl) (pa_cons (pv 0) (pa_cons pe_int pa_nil))))
        (pss_cons (ps_set (i := 8) sc_law_filled.nd rfl (Or.inl rfl) (pe_cmpR (op_eqD hr.units) (pe_lc (own := [("other", 10), ("result", 9)]) (g := (gTup K 2 (gCons (gName 10) (gCons (gName 9) gNil)))) rfl sc_law_filled.nd (pi_list (pv 6)) (blkOk_by (own := [("other", 10), ("result", 9)]) (N := ["box", "cache", "sources", "attempts", "known", "name", "found", "kind", "whole", "result", "other"]) (sc := defScope s_law_filled) (by decide +kernel)) (fun _ _ _ _ _ => (pg_tupK (K := K) rfl rfl (pgs_cons (pg_name (i := 10) sc_law_filled.nd rfl (Or.inl rfl)) (pgs_cons (pg_name (i := 9) sc_law_filled.nd rfl (Or.inl rfl)) pgs_nil)))) (fun _ _ _ _ _ => (pts_one (pt_cmpR op_isN (pv 9) pe_non (nomark _)))) (fun _ _ _ _ _ => (pv 10))) (pe_lst pa_nil) (nomark _)))
        (C8.pss_cut (ps_if (PW.pt (pw_and (pt_cmpR op_eq (pv 7) pe_int (nomark _)) (pw_and1 (pt_val (pv 8)))))
          (pss_one (ps_expr (pe_calM cCache_add (hr.mono (by decide)) (pv 1) (pa_cons (pe_tup (pa_cons (pv 5) (pa_cons (pe_op op_add_str (pe_dget (hu_of hr) (pv 2) (pv 5) (fun _ _ => rfl)) pe_str) (pa_cons (pe_callTy call_tuple_of (by rfl) z.tuple (by decide +kernel) (pa_cons (pv 6) pa_nil)) (pa_cons (pe_tup (pa_cons pe_str (pa_cons pe_str (pa_cons (pe_tup pa_nil) pa_nil)))) pa_nil))))) pa_nil))))
          pss_nil)
        (C8.pss_cut (ps_if (PW.pt (pw_and (pt_cmpR op_eq (pv 7) pe_int (nomark _)) (pw_and (pt_val (pv 8)) (pw_and1 (pt_cmpR (op_neD hr.units) (pv 6) (pe_lst pa_nil) (nomark _))))))
          (pss_one (ps_expr (pe_calM cCache_add (hr.mono (by decide)) (pv 1) (pa_cons (pe_tup (pa_cons (pv 5) (pa_cons (pe_dget (hu_of hr) (pv 2) (pv 5) (fun _ _ => rfl)) (pa_cons (pe_op op_catA (pe_tup (pa_cons (pe_tup (pa_cons (pe_ix ix_tup (pe_ix ix_list (pv 6) pe_int (fun _ _ => rfl)) pe_int (fun _ _ => rfl)) (pa_cons (pe_tup (pa_cons pe_str (pa_cons pe_str (pa_cons (pe_tup pa_nil) pa_nil)))) pa_nil))) pa_nil)) (pe_callTy call_tuple_of (by rfl) z.tuple (by decide +kernel) (pa_cons (pe_slice sl_list (pv 6) (po_some pe_int) po_none) pa_nil))) (pa_cons (pe_tup (pa_cons pe_str (pa_cons pe_str (pa_cons (pe_tup pa_nil) pa_nil)))) pa_nil))))) pa_nil))))
          pss_nil)
        (pss_one (ps_if (PW.pt (pw_and (pt_val (pv 8)) (pw_and1 (pt_cmpR op_gt (pv 7) pe_int (nomark _)))))
          (pss_cons (ps_set (i := 9) sc_law_filled.nd rfl (Or.inl rfl) (pe_cal claw_rendered (hr.mono (by decide)) (by rfl) (pa_cons (pv 5) (pa_cons (pe_dget (hu_of hr) (pv 2) (pv 5) (fun _ _ => rfl)) (pa_cons (pv 3) (pa_cons (pv 6) pa_nil))))))
          (pss_one (ps_if (pt_cmpR op_gt (pv 7) pe_int (nomark _))
            (pss_cons (ps_expr (pe_calM cCache_add (hr.mono (by decide)) (pv 1) (pa_cons (pe_tup (pa_cons (pv 5) (pa_cons (pe_dget (hu_of hr) (pv 2) (pv 5) (fun _ _ => rfl)) (pa_cons (pe_callTy call_tuple_of (by rfl) z.tuple (by decide +kernel) (pa_cons (pv 6) pa_nil)) (pa_cons (pv 9) pa_nil))))) pa_nil)))
            (pss_one (ps_dput (hu_of hr) (pv 4) (pv 5) (pv 9) rfl)))
            pss_nil)))
          pss_nil))))))))
      (pss_one (ps_ret (pv 4))))), ?_⟩
    obtain ⟨dg, bx⟩ := hb
    have Db : D ≠ b := by
      obtain ⟨_, _, e, _⟩ := bx
      exact ne_of hD e (by intro z; cases z)
    intro G nG
    have Gdc : G ≠ dc := by
      obtain ⟨kv, e⟩ := cat_dic ca0
      exact (ne_of_none e nG).symm
    have Gb : G ≠ b := (bx.ne nG).1
    have hD1 := same_new (o := .dK []) nG _ _ hD
    refine ⟨.ref D, rfl, D, _, srcs.map (·.1), rfl, .inl hD1, by unfold enc; rw [List.map_map, List.map_map]; rfl, by rw [List.length_map]; omega, fun ys p perm srt np => ?_⟩
    refine ⟨p, _, rfl, .inl (.inl upd_same), fun p2 np2 => ?_⟩
    have s1 : Same H (upd (upd (upd H G (.dK [])) p (.lst (ys.map V.str))) p2 (.lst (ys.map V.str).reverse)) := ((same_new nG).trans (same_new np)).trans (same_new np2)
    have hG : upd (upd (upd H G (.dK [])) p (.lst (ys.map V.str))) p2 (.lst (ys.map V.str).reverse) G = some (.dK []) := same_new np2 _ _ (same_new np _ _ upd_same)
    have p2G : p2 ≠ G := (ne_of_none (same_new np _ _ upd_same) np2).symm
    have np2H : H p2 = none := by
      cases e : H p2 with
      | none => rfl
      | some o => rw [((same_new nG).trans (same_new np)) _ _ e] at np2; cases np2
    have p2b : p2 ≠ b := (bx.ne np2H).1
    have p2dc : p2 ≠ dc := by
      obtain ⟨kv, e⟩ := cat_dic ca0
      exact (ne_of_none e np2H).symm
    refine ⟨p2, rfl, ⟨_, .inl (.inl upd_same)⟩, ?_⟩
    have e2 : (ys.map V.str).reverse = ys.reverse.map V.str := List.map_reverse.symm
    rw [e2] at hG s1 ⊢
    have ndz : ys.reverse.Nodup := List.pairwise_reverse.mpr ((perm.nodup_iff.mpr nd).imp fun h => h.symm)
    have memz : ∀ x, x ∈ ys.reverse ↔ x ∈ srcs.map (·.1) := fun x => List.mem_reverse.trans perm.mem_iff
    have desc : ys.reverse.Pairwise fun a b => ahead a b = false := List.pairwise_reverse.mpr (sorted_pw srt)
    have lz : ys.reverse.length ≤ 12 := by
      rw [List.length_reverse, perm.length_eq, List.length_map]
      exact few
    generalize ys.reverse = zs at *
    refine for_list (K := K) (a := p2) (xs := zs.map V.str) (fun j σ H3 => ∃ (y5 y6 y7 y8 y9 y10 : Option V) (kn : List (Str × (Addr × Res))) (cs : List (Str × List Row)), σ = [some (.ref b), some (.ref c), some (.ref D), some (.int att), some (.ref G), y5, y6, y7, y8, y9, y10] ∧ Chg b dc H H3 ∧ BoxAt H3 b dg ∧ H3 p2 = some (.lst (zs.map V.str)) ∧
        DictRes K H3 G kn ∧ GoodK kn srcs ∧ CAt K CCache H3 c dc cs ∧ RowsRes cs ∧ (cs.length ≤ j ∧ kn.length ≤ j) ∧ (∀ x, x ∉ zs.take j → getS kn x = none ∧ rowsC cs x = []) ∧
        ∀ x ∈ zs.take j, ∀ t, getS srcs x = some t → (allK (toldN (lawK kn srcs) x (segsOf x t)) = false ∧ lawK kn srcs x = none) ∨ (allK (toldN (lawK kn srcs) x (segsOf x t)) = true ∧ OD (findC (rowsC cs x) t ((toldN (lawK kn srcs) x (segsOf x t)).map depO)) (lawK kn srcs x)))
      ⟨_, _, _, _, _, _, [], [], rfl, ⟨fun p o _ _ e => s1 _ _ e⟩, bx.same s1, upd_same, ⟨hG, by intro p hp; cases hp⟩, (by intro p hp; cases hp), ca0.same s1, (by intro k x hx; cases hx), ⟨Nat.le_refl _, Nat.le_refl _⟩, (fun x _ => ⟨rfl, rfl⟩), by intro x hx; cases hx⟩ (fun j σ H3 _ ⟨_, _, _, _, _, _, _, _, _, _, _, e, _⟩ => .inl (.inl e)) ?_ ?_
    · rintro j y σ H3 hy ⟨y5, y6, y7, y8, y9, y10, kn, cs, rfl, ch3, b3, hp2, hR, gk, ca, rr, ⟨lcs, lkn⟩, fresh, eqs⟩
      obtain ⟨nm, hz, rfl⟩ : ∃ nm, zs[j]? = some nm ∧ y = V.str nm := by
        rw [List.getElem?_map] at hy
        cases e : zs[j]? with
        | none => rw [e] at hy; cases hy
        | some x => rw [e] at hy; exact ⟨x, rfl, (Option.some.inj hy).symm⟩
      have jl : j < zs.length := by
        by_cases lt : j < zs.length
        · exact lt
        · rw [List.getElem?_eq_none (by omega)] at hz; cases hz
      have ej : zs[j] = nm := by rw [List.getElem?_eq_getElem jl] at hz; exact Option.some.inj hz
      obtain ⟨t, ht⟩ : ∃ t, getS srcs nm = some t := by
        cases e : getS srcs nm with
        | some t => exact ⟨t, rfl⟩
        | none => exact absurd ((memz nm).mp (List.mem_of_getElem? hz)) (get_none.mp e)
      obtain ⟨n6, t60, codes⟩ := ok _ (get_some ht)
      have n6 : nm.length ≤ 6 := n6
      have t60 : t.length ≤ 60 := t60
      have codes : Codes t := codes
      have nl := (txt _ (get_some ht)).1
      have ncd : Codes nm := (txt _ (get_some ht)).2
      have tk : zs.take (j + 1) = zs.take j ++ [nm] := by rw [List.take_add_one, hz]; rfl
      have nin : nm ∉ zs.take j := fun h => by
        obtain ⟨i, hi⟩ := List.getElem?_of_mem h
        have ij : i < j := by
          by_cases lt : i < j
          · exact lt
          · rw [List.getElem?_eq_none (by rw [List.length_take]; omega)] at hi; cases hi
        rw [List.getElem?_take_of_lt ij, List.getElem?_eq_getElem (by omega : i < zs.length)] at hi
        have := (List.pairwise_iff_getElem.mp ndz) i j (by omega) jl ij
        exact this (by rw [ej]; exact Option.some.inj hi)
      have ahd : ∀ x ∈ zs.take j, ahead x nm = false := fun x h => by
        obtain ⟨i, hi⟩ := List.getElem?_of_mem h
        have ij : i < j := by
          by_cases lt : i < j
          · exact lt
          · rw [List.getElem?_eq_none (by rw [List.length_take]; omega)] at hi; cases hi
        rw [List.getElem?_take_of_lt ij, List.getElem?_eq_getElem (by omega : i < zs.length)] at hi
        have := (List.pairwise_iff_getElem.mp desc) i j (by omega) jl ij
        rw [ej, Option.some.inj hi] at this
        exact this
      obtain ⟨gn, rn⟩ := fresh nm nin
      have srcD : ∀ {H' : Hp}, Chg b dc H H' → DictS H' D srcs := fun {H'} c' => c'.keep _ _ Db Ddc hD
      have src : ∀ {H' : Hp}, Chg b dc H H' → DGet H' D (.str nm) (some (.str t)) := fun {H'} c' => by
        have := DGet.k (k := Sum.inr nm) (show H' D = some (.dK (enc V.str srcs)) from srcD c')
        rw [valV_enc, ht] at this
        exact this
      -- found
      refine ⟨_, rfl, _, rfl, _, rfl, G, D, kn, srcs, nm, rfl, hR, .inl (srcD ch3), ⟨nd, few, ok⟩, fun H4 Fa s4 nF deps => ?_⟩
      have eT : toldIn (lawK kn srcs) srcs nm = toldN (lawK kn srcs) nm (segsOf nm t) := by
        unfold toldIn
        rw [ht]
        rfl
      rw [eT] at deps
      have named := told_named (lawK kn srcs) nm t
      have few2 : (toldN (lawK kn srcs) nm (segsOf nm t)).length ≤ 250 := by
        have l1 := toldN_len (lawK kn srcs) nm (segsOf nm t)
        have l2 := segs_few nameB (aft nm) t t.length 0 0 rfl (Nat.zero_le _)
        have l3 : (segsOf nm t).length ≤ 121 := by unfold segsOf; omega
        omega
      have dok : ∀ d ∈ toldN (lawK kn srcs) nm (segsOf nm t), (d.1.length ≤ 6 ∧ Codes d.1) ∧ ∀ r, d.2 = some r → Rok r := fun d hd => by
        obtain ⟨h1, h2⟩ := named d hd
        refine ⟨⟨name_len h1, name_codes h1⟩, fun r hr => ?_⟩
        rw [h2] at hr
        have g := gk.at hr
        exact ⟨g.1.1, g.2.1⟩
      obtain ⟨l, hl⟩ : ∃ l, l = toldN (lawK kn srcs) nm (segsOf nm t) := ⟨_, rfl⟩
      rw [← hl] at deps few2 dok
      have names : ∀ d ∈ l, nameB d.1 = true := fun d hd => (named d (by rw [hl] at hd; exact hd)).1
      have ch4 := ch3.same s4
      -- kind
      refine ⟨.ref b, rfl, b, 5, rfl, by decide, ⟨dg, b3.same s4⟩, fun kd H5 k0 k1 d5 => ?_⟩
      have b5 := d5.dig dg (b3.same s4)
      have ch5 := ch4.drew d5
      have nFb : Fa ≠ b := (b3.ne nF).1
      obtain ⟨ts, hF, pr⟩ := deps
      have kT5 := d5.keepT (K := K) ⟨dg, b3.same s4⟩
      have hF5 := d5.keep Fa _ nFb hF
      have pr5 : Paired (TDep K H5) ts l := Paired.mapP pr fun _ _ ⟨v, a, b⟩ => ⟨v, kT5 _ _ a, ov_keepT kT5 b⟩
      clear hF pr
      have hp5 := d5.keep p2 _ p2b (s4 _ _ hp2)
      have ca5 : CAt K CCache H5 c dc cs := (ca.same s4).drew d5 ⟨dg, b3.same s4⟩
      have hR5 : DictRes K H5 G kn := ⟨d5.keep _ _ Gb (s4 _ _ hR.1), fun p hp => ⟨resAt_keepT kT5 ((hR.2 p hp).1.same s4), (hR.2 p hp).2⟩⟩
      -- whole
      refine ⟨.ref Fa, rfl, Fa, rfl, ⟨_, .inl (.inl hF5)⟩, fun E0 nE => ?_⟩
      refine lc_unk hF5 pr5 nE (by omega) ?_ ?_
      · intro a x v H' R S sq yesR noS
        refine ⟨a, _, rfl, sq, rfl, _, _, rfl, _, _, rfl, rfl, rfl, _, rfl, rfl, _, rfl, ite2 (fun e => ?_) (fun e => ?_)⟩
        · exact ⟨_, rfl, yesR (of_decide_eq_true e)⟩
        · exact noS fun h => e (decide_eq_true h)
      · refine ⟨Nat.zero_le _, fun E1 nE1 => ?_⟩
        have fs5 : FS K CCache b dc dg c p2 G Fa H H5 zs kn ts l cs := ⟨ch5, b5, hp5, hR5, hF5, pr5, ca5, rr⟩
        have fs7 := (fs5.same (same_new (o := .lst ((unk l).map V.str)) nE)).same (same_new (o := .lst []) nE1)
        have dU : Dp K (upd (upd H5 E0 (.lst ((unk l).map V.str))) E1 (.lst [])) (.ref E0) (.list ((unk l).map PyData.str)) := .lst (.inl (.inl (same_new nE1 _ _ upd_same))) (strs_dp (unk l))
        refine ⟨_, _, dU, .lst (.inl (.inl upd_same)) .nil, unk_shaped names, by decide, ?_⟩
        rw [eqv_strs, unk_nil]
        clear fs5 dU
        generalize upd (upd H5 E0 (.lst ((unk l).map V.str))) E1 (.lst []) = H7 at fs7 ⊢
        clear hF5 pr5 hp5 ca5 hR5 b5 ch5 nE
        -- another text
        refine ⟨fun σ' H' => ∃ (y9 y10 : Option V) (cs1 : List (Str × List Row)), σ' = [some (.ref b), some (.ref c), some (.ref D), some (.int att), some (.ref G), some (.str nm), some (.ref Fa), some (.int kd), some (.bl (allK l)), y9, y10] ∧ FS K CCache b dc dg c p2 G Fa H H' zs kn ts l cs1 ∧
          (cs1 = cs ∨ (kd = 0 ∧ allK l = true ∧ Miss cs cs1 nm t (l.map depO))), ?_, ?_⟩
        · refine ⟨_, rfl, rfl, _, rfl, ite2 (fun e => ⟨_, rfl, _, rfl, ite2 (fun w => ?_) (fun w => ⟨_, _, cs, rfl, fs7, .inl rfl⟩)⟩) (fun e => iteF ⟨_, _, cs, rfl, fs7, .inl rfl⟩)⟩
          have kd0 : kd = 0 := V.int.inj (of_decide_eq_true e)
          obtain ⟨dx, kvs, hc, hdc, hrows, hfine, hfew⟩ := fs7.ca
          refine ⟨.ref c, rfl, c, dx, _, rfl, hc, rfl, _, rfl, _, rfl, _, rfl, D, .str t, rfl, src fs7.ch, _, _, rfl, rfl, sizeLine_big (by show t.length + 1 ≤ _; omega), ?_⟩
          refine ⟨.ref Fa, rfl, Fa, _, rfl, .inl ⟨.inl (.inl fs7.hF), fun tp ntp => ?_⟩⟩
          refine ⟨Nat.zero_le _, fun e0 ne0 => ⟨by show 3 ≤ sizeLine; decide, fun o0 no0 => ⟨by show 4 ≤ sizeLine; decide, fun T nT => ?_⟩⟩⟩
          have fsT := (((fs7.same (same_new (o := .tup (ts.map V.ref)) ntp)).same (same_new (o := .tup []) ne0)).same (same_new (o := .tup [V.str "text", .str "old", .ref e0]) no0)).same (same_new (o := .tup [V.str nm, .str (t ++ "x"), .ref tp, .ref o0]) nT)
          have htp := same_new (o := .tup [V.str nm, .str (t ++ "x"), .ref tp, .ref o0]) nT _ _ (same_new (o := .tup [V.str "text", .str "old", .ref e0]) no0 _ _ (same_new (o := .tup []) ne0 _ _ (@upd_same H7 tp (.tup (ts.map V.ref)))))
          have he0 := same_new (o := .tup [V.str nm, .str (t ++ "x"), .ref tp, .ref o0]) nT _ _ (same_new (o := .tup [V.str "text", .str "old", .ref e0]) no0 _ _ (@upd_same (upd H7 tp (.tup (ts.map V.ref))) e0 (.tup [])))
          have ho0 := same_new (o := .tup [V.str nm, .str (t ++ "x"), .ref tp, .ref o0]) nT _ _ (@upd_same (upd (upd H7 tp (.tup (ts.map V.ref))) e0 (.tup [])) o0 (.tup [V.str "text", .str "old", .ref e0]))
          have tx : (t ++ "x").length ≤ 100 ∧ Codes (t ++ "x") := ⟨by rw [len_app]; show t.length + 1 ≤ _; omega, app_ok codes (lit_codes (by decide +kernel))⟩
          have nb := (told_pd w few2 dok).nb
          refine ⟨c, dc, cs, .ref T, ⟨nm, t ++ "x", l.map depO, resD oldR⟩, rfl, fsT.ca, .tup (.inl (.inl upd_same)) (.cons (.str _) (.cons (.str _) (.cons (.tup (.inl (.inl htp)) (fsT.data w)) (.cons (dp_old ho0 he0) .nil)))), row_pd ⟨n6, ncd⟩ tx w few2 dok old_ok, by omega, fun H8 ca8 kp => ?_⟩
          refine ⟨_, _, _, rfl, fsT.add Gdc ca8 kp ⟨oldR, rfl, old_ok⟩, .inr ⟨kd0, w, _, rfl, rfl, nb, .inl fun e => ?_⟩⟩
          have := congrArg Str.length e
          rw [len_app] at this
          have e1 : ("x" : Str).length = 1 := rfl
          omega
        · clear fs7
          rintro σ H8 ⟨y9, y10, cs1, rfl, fs8, h1⟩
          -- another dependency
          refine ⟨fun σ' H' => ∃ (y9 y10 : Option V) (cs1 : List (Str × List Row)), σ' = [some (.ref b), some (.ref c), some (.ref D), some (.int att), some (.ref G), some (.str nm), some (.ref Fa), some (.int kd), some (.bl (allK l)), y9, y10] ∧ FS K CCache b dc dg c p2 G Fa H H' zs kn ts l cs1 ∧
            (cs1 = cs ∨ (kd ≤ 1 ∧ allK l = true ∧ Miss cs cs1 nm t (l.map depO))), ?_, ?_⟩
          · have h1' : cs1 = cs ∨ (kd ≤ 1 ∧ allK l = true ∧ Miss cs cs1 nm t (l.map depO)) := h1.imp id fun h => ⟨by omega, h.2⟩
            refine ⟨_, rfl, rfl, _, rfl, ite2 (fun e => ⟨_, rfl, _, rfl, ite2 (fun w => ?_) (fun w => iteF ⟨_, _, cs1, rfl, fs8, h1'⟩)⟩) (fun e => iteF ⟨_, _, cs1, rfl, fs8, h1'⟩)⟩
            have kd1 : kd = 1 := V.int.inj (of_decide_eq_true e)
            obtain rfl : cs1 = cs := by
              rcases h1 with h | h
              · exact h
              · omega
            have nb := (told_pd w few2 dok).nb
            have shF := ((told_pd w few2 dok).sz.lst).shaped (by decide)
            refine ⟨.ref Fa, rfl, Nat.zero_le _, fun E2 nE2 => ?_⟩
            have fs9 := fs8.same (same_new (o := .lst []) nE2)
            refine ⟨_, _, .lst (.inl (.inl fs9.hF)) (fs9.data w), .lst (.inl (.inl upd_same)) .nil, shF, by decide, _, rfl, ?_⟩
            rw [eqv_nilL]
            obtain ⟨l0, hl0⟩ : ∃ l0, l0 = l := ⟨l, rfl⟩
            cases l with
            | nil => exact iteF ⟨_, _, cs1, rfl, fs9, .inl rfl⟩
            | cons d0 lr =>
              refine iteT ?_
              clear fs8
              cases ts with
              | nil => exact (by have := fs9.pr; cases this)
              | cons a0 tr =>
                obtain ⟨⟨v0, hv0, ov0⟩, prr⟩ : TDep K _ a0 d0 ∧ Paired (TDep K _) tr lr := by
                  have := fs9.pr
                  cases this with
                  | cons a b => exact ⟨a, b⟩
                have hF9 := fs9.hF
                obtain ⟨dx, kvs, hc, hdc, hrows, hfine, hfew⟩ := fs9.ca
                refine ⟨.ref c, rfl, c, dx, _, rfl, hc, rfl, _, rfl, _, rfl, _, rfl, D, .str t, rfl, src fs9.ch, ?_⟩
                refine ⟨.ref Fa, rfl, Fa, _, _, .ref a0, rfl, rfl, .inl (.inl hF9), atI_nat (j := 0) rfl, a0, _, _, .str d0.1, rfl, rfl, hv0, atI_nat (j := 0) rfl, ?_⟩
                refine ⟨Nat.zero_le _, fun e1 ne1 => ⟨by show 3 ≤ sizeLine; decide, fun o1 no1 => ⟨by show 2 ≤ sizeLine; decide, fun q1 nq1 => ⟨by show 1 ≤ sizeLine; decide, fun g1 ng1 => ?_⟩⟩⟩⟩
                have sA := (same_new (o := .tup []) ne1).trans ((same_new (o := .tup [V.str "text", .str "elder", .ref e1]) no1).trans ((same_new (o := .tup [V.str d0.1, .ref o1]) nq1).trans (same_new (o := .tup [V.ref q1]) ng1)))
                have sB := (same_new (o := .tup [V.str "text", .str "elder", .ref e1]) no1).trans ((same_new (o := .tup [V.str d0.1, .ref o1]) nq1).trans (same_new (o := .tup [V.ref q1]) ng1))
                have sC := (same_new (o := .tup [V.str d0.1, .ref o1]) nq1).trans (same_new (o := .tup [V.ref q1]) ng1)
                have sD := same_new (o := .tup [V.ref q1]) ng1
                have he1 := sB _ _ upd_same
                have ho1 := sC _ _ upd_same
                have hq1 := sD _ _ upd_same
                have fsA := fs9.same sA
                clear sA sB sC sD
                refine ⟨.ref Fa, rfl, 1, rfl, Fa, _, rfl, .inl (.inl fsA.hF), fun sl nsl => ⟨sl, _, rfl, .inl ⟨.inl (.inl upd_same), fun tp ntp => ?_⟩⟩⟩
                have cutE : cutV (((a0 :: tr) : List Addr).map V.ref) (some 1) none = tr.map V.ref := cut_n_ _ 1
                rw [cutE] at ntp ⊢
                have sE := (same_new (o := .lst (tr.map V.ref)) nsl).trans (same_new (o := .tup (tr.map V.ref)) ntp)
                have fsC := fsA.same sE
                have he1 := sE _ _ he1
                have ho1 := sE _ _ ho1
                have hq1 := sE _ _ hq1
                have hg1 := sE _ _ upd_same
                have ltr : (tr.map V.ref).length ≤ 250 := by
                  rw [List.length_map, paired_len prr]
                  have := few2
                  rw [List.length_cons] at this
                  omega
                refine ⟨g1, tp, [.ref q1], tr.map V.ref, rfl, rfl, .inl (.inl hg1), .inl (.inl upd_same), sizeLine_big (by show 1 + _ ≤ _; omega), fun h => absurd h (by simp), fun _ ye => ?_, fun _ yn FX nFX => ?_⟩
                · have fsX := fsC
                  have hFX := sqt_at (K := K) (ys := .ref q1 :: tr.map V.ref) hg1 (by rw [ye])
                  refine ⟨Nat.zero_le _, fun e0 ne0 => ⟨by show 3 ≤ sizeLine; decide, fun o0 no0 => ⟨by show 4 ≤ sizeLine; decide, fun T nT => ?_⟩⟩⟩
                  have s1 := (same_new (o := .tup []) ne0).trans ((same_new (o := .tup [V.str "text", .str "old", .ref e0]) no0).trans (same_new (o := .tup [V.str nm, .str t, .ref g1, .ref o0]) nT))
                  have s2 := (same_new (o := .tup [V.str "text", .str "old", .ref e0]) no0).trans (same_new (o := .tup [V.str nm, .str t, .ref g1, .ref o0]) nT)
                  have s3 := same_new (o := .tup [V.str nm, .str t, .ref g1, .ref o0]) nT
                  have fsT := fsX.same s1
                  have he0 := s2 _ _ upd_same
                  have ho0 := s3 _ _ upd_same
                  have hF9 := seqT_same s1 hFX
                  have dE := dp_elder (K := K) (s1 _ _ hq1) (s1 _ _ ho1) (s1 _ _ he1)
                  have dR := dpAll_tail (fsT.data w)
                  have few3 : ((d0.1, some elder) :: lr).length ≤ 250 := few2
                  have k3 : allK ((d0.1, some elder) :: lr) = true := by
                    unfold allK at w ⊢
                    rw [List.all_cons, Bool.and_eq_true] at w
                    rw [List.all_cons, w.2]
                    rfl
                  have dok3 : ∀ d ∈ ((d0.1, some elder) :: lr), (d.1.length ≤ 6 ∧ Codes d.1) ∧ ∀ r, d.2 = some r → Rok r := fun d hd => by
                    rcases List.mem_cons.mp hd with rfl | h
                    · exact ⟨(dok d0 List.mem_cons_self).1, fun r hr => by rw [← Option.some.inj hr]; exact elder_ok⟩
                    · exact dok d (List.mem_cons_of_mem _ h)
                  have nb3 := (told_pd k3 few3 dok3).nb
                  refine ⟨c, dc, cs1, .ref T, ⟨nm, t, ((d0.1, some elder) :: lr).map depO, resD oldR⟩, rfl, fsT.ca, .tup (.inl (.inl upd_same)) (.cons (.str _) (.cons (.str _) (.cons (.tup hF9 (.cons dE dR)) (.cons (dp_old ho0 he0) .nil)))), row_pd ⟨n6, ncd⟩ ⟨by omega, codes⟩ k3 few3 dok3 old_ok, by omega, fun H8 ca8 kp => ?_⟩
                  refine ⟨_, _, _, rfl, fsT.add Gdc ca8 kp ⟨oldR, rfl, old_ok⟩, .inr ⟨by omega, w, _, rfl, rfl, nb3, .inr fun e => ?_⟩⟩
                  have e := (List.cons.inj e).1
                  unfold depO at e
                  injection e with e
                  injection e with _ e
                  injection e with e _
                  have e := resD_inj e
                  refine not_elder ?_ e.symm
                  have m0 : d0 ∈ toldN (lawK kn srcs) nm (segsOf nm t) := by rw [← hl]; exact List.mem_cons_self
                  cases h2 : d0.2 with
                  | none =>
                    unfold allK at w
                    rw [List.all_cons, h2] at w
                    cases w
                  | some r =>
                    rw [(named d0 m0).2] at h2
                    exact (gk.at h2).2.2
                · have sX := same_new (o := .tup ([V.ref q1] ++ tr.map V.ref)) nFX
                  have fsX := fsC.same sX
                  have he1 := sX _ _ he1
                  have ho1 := sX _ _ ho1
                  have hq1 := sX _ _ hq1
                  have hFX := sqt_new (K := K) (xs := .ref q1 :: tr.map V.ref) nFX
                  refine ⟨Nat.zero_le _, fun e0 ne0 => ⟨by show 3 ≤ sizeLine; decide, fun o0 no0 => ⟨by show 4 ≤ sizeLine; decide, fun T nT => ?_⟩⟩⟩
                  have s1 := (same_new (o := .tup []) ne0).trans ((same_new (o := .tup [V.str "text", .str "old", .ref e0]) no0).trans (same_new (o := .tup [V.str nm, .str t, .ref FX, .ref o0]) nT))
                  have s2 := (same_new (o := .tup [V.str "text", .str "old", .ref e0]) no0).trans (same_new (o := .tup [V.str nm, .str t, .ref FX, .ref o0]) nT)
                  have s3 := same_new (o := .tup [V.str nm, .str t, .ref FX, .ref o0]) nT
                  have fsT := fsX.same s1
                  have he0 := s2 _ _ upd_same
                  have ho0 := s3 _ _ upd_same
                  have hF9 := seqT_same s1 hFX
                  have dE := dp_elder (K := K) (s1 _ _ hq1) (s1 _ _ ho1) (s1 _ _ he1)
                  have dR := dpAll_tail (fsT.data w)
                  have few3 : ((d0.1, some elder) :: lr).length ≤ 250 := few2
                  have k3 : allK ((d0.1, some elder) :: lr) = true := by
                    unfold allK at w ⊢
                    rw [List.all_cons, Bool.and_eq_true] at w
                    rw [List.all_cons, w.2]
                    rfl
                  have dok3 : ∀ d ∈ ((d0.1, some elder) :: lr), (d.1.length ≤ 6 ∧ Codes d.1) ∧ ∀ r, d.2 = some r → Rok r := fun d hd => by
                    rcases List.mem_cons.mp hd with rfl | h
                    · exact ⟨(dok d0 List.mem_cons_self).1, fun r hr => by rw [← Option.some.inj hr]; exact elder_ok⟩
                    · exact dok d (List.mem_cons_of_mem _ h)
                  have nb3 := (told_pd k3 few3 dok3).nb
                  refine ⟨c, dc, cs1, .ref T, ⟨nm, t, ((d0.1, some elder) :: lr).map depO, resD oldR⟩, rfl, fsT.ca, .tup (.inl (.inl upd_same)) (.cons (.str _) (.cons (.str _) (.cons (.tup hF9 (.cons dE dR)) (.cons (dp_old ho0 he0) .nil)))), row_pd ⟨n6, ncd⟩ ⟨by omega, codes⟩ k3 few3 dok3 old_ok, by omega, fun H8 ca8 kp => ?_⟩
                  refine ⟨_, _, _, rfl, fsT.add Gdc ca8 kp ⟨oldR, rfl, old_ok⟩, .inr ⟨by omega, w, _, rfl, rfl, nb3, .inr fun e => ?_⟩⟩
                  have e := (List.cons.inj e).1
                  unfold depO at e
                  injection e with e
                  injection e with _ e
                  injection e with e _
                  have e := resD_inj e
                  refine not_elder ?_ e.symm
                  have m0 : d0 ∈ toldN (lawK kn srcs) nm (segsOf nm t) := by rw [← hl]; exact List.mem_cons_self
                  cases h2 : d0.2 with
                  | none =>
                    unfold allK at w
                    rw [List.all_cons, h2] at w
                    cases w
                  | some r =>
                    rw [(named d0 m0).2] at h2
                    exact (gk.at h2).2.2
          · clear fs8 h1
            rintro σ H9 ⟨y9', y10', cs2, rfl, fs9, h2⟩
            have rows2 : ∀ x, x ≠ nm → rowsC cs2 x = rowsC cs x := fun x hx => by
              rcases h2 with h | ⟨_, _, y, h, e, _⟩
              · rw [h]
              · rw [h]
                exact rows_add (by rw [e]; exact hx)
            have len2 : cs2.length ≤ j + 1 := by
              rcases h2 with h | ⟨_, _, y, h, _⟩
              · rw [h]; omega
              · rw [h]
                have := len_add cs y
                omega
            have nmK : lawK kn srcs nm = none := by
              unfold lawK
              rw [ht, gn]
              rfl
            have keepq : ∀ (kn' : List (Str × (Addr × Res))) (cs' : List (Str × List Row)), (∀ x, x ≠ nm → lawK kn' srcs x = lawK kn srcs x) → (∀ x, x ≠ nm → rowsC cs' x = rowsC cs x) →
                ((allK l = false ∧ lawK kn' srcs nm = none) ∨ (allK l = true ∧ OD (findC (rowsC cs' nm) t (l.map depO)) (lawK kn' srcs nm))) →
                ∀ x ∈ zs.take (j + 1), ∀ t', getS srcs x = some t' → (allK (toldN (lawK kn' srcs) x (segsOf x t')) = false ∧ lawK kn' srcs x = none) ∨ (allK (toldN (lawK kn' srcs) x (segsOf x t')) = true ∧ OD (findC (rowsC cs' x) t' ((toldN (lawK kn' srcs) x (segsOf x t')).map depO)) (lawK kn' srcs x)) := by
              intro kn' cs' hk hc hn x hx t' ht'
              have aftx := segs_after nameB (aft x) t' t'.length 0 0 rfl (Nat.zero_le _)
              rw [tk] at hx
              rcases List.mem_append.mp hx with h | h
              · have xn : x ≠ nm := fun e => nin (by rw [← e]; exact h)
                have e : toldN (lawK kn' srcs) x (segsOf x t') = toldN (lawK kn srcs) x (segsOf x t') := toldN_congr (fun n ha => hk n (fun e => by
                  rw [e, aft_ahead, ahd x h] at ha
                  cases ha)) aftx
                rw [e, hk x xn, hc x xn]
                exact eqs x h t' ht'
              · obtain rfl : x = nm := List.mem_singleton.mp h
                obtain rfl : t = t' := Option.some.inj (ht.symm.trans ht')
                have e : toldN (lawK kn' srcs) x (segsOf x t) = toldN (lawK kn srcs) x (segsOf x t) := toldN_congr (fun n ha => hk n (fun e => by
                  rw [e, aft_ahead, ahead_irr] at ha
                  cases ha)) aftx
                rw [e, ← hl]
                exact hn
            have freshq : ∀ (kn' : List (Str × (Addr × Res))) (cs' : List (Str × List Row)), (∀ x, x ≠ nm → getS kn' x = getS kn x) → (∀ x, x ≠ nm → rowsC cs' x = rowsC cs x) → ∀ x, x ∉ zs.take (j + 1) → getS kn' x = none ∧ rowsC cs' x = [] := fun kn' cs' hk hc x hx => by
              rw [tk] at hx
              have xn : x ≠ nm := fun e => hx (by rw [e]; exact List.mem_append_right _ List.mem_cons_self)
              rw [hk x xn, hc x xn]
              exact fresh x fun h => hx (List.mem_append_left _ h)
            have none2 : kd ≤ 1 → allK l = true → findC (rowsC cs2 nm) t (l.map depO) = .none := fun _ w => by
              rcases h2 with h | ⟨_, _, y, h, e, nbx, dif⟩
              · rw [h, rn]
                rfl
              · have rn' : rowsC cs y.n = [] := by rw [e]; exact rn
                rw [h, ← e, rows_add_new rn']
                exact find_miss dif nbx (told_pd w few2 dok).nb
            refine ⟨_, rfl, _, rfl, ite2 (fun w => ⟨_, rfl, _, _, rfl, rfl, _, rfl, ite2 (fun kp => ?_) (fun kp => ?_)⟩) (fun w => iteF ?_)⟩
            · have kpos : 0 < kd := of_decide_eq_true kp
              have hds := told_deps (R := lawK kn srcs) (nm := nm) (l := segsOf nm t) (by rw [← hl]; exact w)
              rw [← hl] at hds
              have depsA : DepsAt K H9 Fa (depsN (fun n => (lawK kn srcs n).getD nothing) nm (segsOf nm t)) := tdeps_some (by rw [← hds]; exact ⟨ts, fs9.hF, fs9.pr⟩)
              have good : ∀ n, (((lawK kn srcs n).getD nothing).small ∧ Within (allLinks srcs) ((lawK kn srcs n).getD nothing)) ∧ RCodes ((lawK kn srcs n).getD nothing) ∧ RNol ((lawK kn srcs n).getD nothing) := fun n => by
                cases e : lawK kn srcs n with
                | none => exact ⟨⟨rok_nothing.1, List.nodup_nil, by intro x hx; cases hx⟩, rok_nothing.2, nol_lit (by decide +kernel)⟩
                | some r => exact gk.at e
              have sm : ∀ r ∈ ress (depsN (fun n => (lawK kn srcs n).getD nothing) nm (segsOf nm t)), (r.small ∧ Within (allLinks srcs) r) ∧ RCodes r ∧ RNol r := fun r hr => by
                obtain ⟨d, hd, rfl⟩ := List.mem_map.mp hr
                obtain ⟨n, hn⟩ := deps_mem hd
                rw [hn]
                exact good n
              have fineS := segs_kinds nameB (aft nm) t t.length 0 0 rfl (Nat.le_refl _) (Nat.zero_le _)
              have fit := deps_fit (fun n => (lawK kn srcs n).getD nothing) nm (segsOf nm t) (fun s hs => (fineS s hs).1)
              have lim : (allLinks srcs).length ≤ 2000 := by
                have := all_few (srcs := srcs) fun p hp => (ok p hp).2.1
                omega
              have res := rendered_small (U := allLinks srcs) (nm := nm) (t := t) (att := att) (fs := ress (depsN (fun n => (lawK kn srcs n).getD nothing) nm (segsOf nm t))) lim (all_short srcs) n6
                (fun r hr => (sm r hr).1)
                (fun s hs hk => List.mem_flatMap.mpr ⟨(nm, t), get_some ht, List.mem_map.mpr ⟨s, List.mem_filter.mpr ⟨hs, decide_eq_true hk⟩, rfl⟩⟩)
              have resC := rendered_codes (att := att) ncd codes fit fun r hr => (sm r hr).2.1
              have resN := rendered_nol (att := att) nl fit fun r hr => (sm r hr).2.2
              refine ⟨_, rfl, _, rfl, _, rfl, D, .str t, rfl, src fs9.ch, _, rfl, _, rfl, nm, t, att, Fa, _, rfl, by omega, codes, depsA, fit, fun d hd => (sm d.2 (List.mem_map.mpr ⟨d, hd, rfl⟩)).1.1, fun H10 r s10 hr => ?_⟩
              generalize renderedN nm t att (ress (depsN (fun n => (lawK kn srcs n).getD nothing) nm (segsOf nm t))) = R1 at res resC resN hr
              have fsE := fs9.same s10
              refine ⟨_, rfl, _, _, rfl, rfl, _, rfl, ite2 (fun kp2 => ?_) (fun kp2 => ?_)⟩
              · have k2 : 1 < kd := of_decide_eq_true kp2
                obtain rfl : cs2 = cs := by
                  rcases h2 with h | h
                  · exact h
                  · omega
                obtain ⟨dx, kvs, hc, hdc, hrows, hfine, hfew⟩ := fsE.ca
                refine ⟨.ref c, rfl, c, dx, _, rfl, hc, rfl, _, rfl, _, rfl, _, rfl, D, .str t, rfl, src fsE.ch, .ref Fa, rfl, Fa, _, rfl, .inl ⟨.inl (.inl fsE.hF), fun tp ntp => ⟨_, rfl, by show 4 ≤ sizeLine; decide, fun T nT => ?_⟩⟩⟩
                have sT := (same_new (o := .tup (ts.map V.ref)) ntp).trans (same_new (o := .tup [V.str nm, .str t, .ref tp, .ref r]) nT)
                have fsT := fsE.same sT
                have htp := same_new (o := .tup [V.str nm, .str t, .ref tp, .ref r]) nT _ _ (@upd_same H10 tp (.tup (ts.map V.ref)))
                have hrT := hr.same sT
                refine ⟨c, dc, cs2, .ref T, ⟨nm, t, l.map depO, resD R1⟩, rfl, fsT.ca, .tup (.inl (.inl upd_same)) (.cons (.str _) (.cons (.str _) (.cons (.tup (.inl (.inl htp)) (fsT.data w)) (.cons (res_dp hrT) .nil)))), row_pd ⟨n6, ncd⟩ ⟨by omega, codes⟩ w few2 dok ⟨res.1, resC⟩, by omega, fun H11 ca11 kp11 => ?_⟩
                have off : Off dc _ H11 := ⟨kp11, cat_dic fsT.ca⟩
                have hr11 := resAt_keepT off.keepT hrT
                have fs11 := fsT.add Gdc ca11 kp11 ⟨R1, rfl, res.1, resC⟩
                have hG11 := fs11.hR.1
                refine ⟨_, rfl, .ref G, rfl, _, rfl, G, _, rfl, DPut.k (k := Sum.inr nm) hG11 (by unfold enc; rw [List.length_map]; exact small5 (by omega)), ?_⟩
                have aK : ∀ x, x ≠ nm → lawK (putS kn nm (r, R1)) srcs x = lawK kn srcs x := fun x hx => lawK_put hx
                have aC : ∀ x, x ≠ nm → rowsC (addC cs2 ⟨nm, t, l.map depO, resD R1⟩) x = rowsC cs2 x := fun x hx => rows_add hx
                have oddG := odd_d hG11
                have but : ∀ {o : HO}, But G H11 (upd H11 G o) := fun {o} q' o' e n => by rw [upd_ne n]; exact e
                have cG : c ≠ G := by
                  obtain ⟨dx', kvs', h1, _⟩ := fs11.ca
                  exact ne_of h1 hG11 (by intro z; cases z)
                refine ⟨_, _, _, _, _, _, putS kn nm (r, R1), _, rfl, ⟨fun q' o' n1 n2 e => by rw [upd_ne (ne_of_none e nG)]; exact fs11.ch.keep q' o' n1 n2 e⟩, fs11.bx.upd Gb (ne_of hG11 fs11.bx.choose_spec.choose_spec.2.1 (by intro z; cases z)), by rw [upd_ne p2G]; exact fs11.hp, ⟨?_, fun p hp => ?_⟩, fun p hp => ?_, fs11.ca.but but oddG cG (Ne.symm Gdc), fs11.rr, ⟨Nat.le_trans (len_add _ _) (by omega), Nat.le_trans (len_put _ _ _) (by omega)⟩,
                  freshq _ _ (fun x hx => by rw [get_put, if_neg hx]) aC, keepq _ _ aK aC (.inr ⟨w, ?_⟩)⟩
                · rw [upd_same]
                  exact congrArg (fun z => some (HO.dK z)) (putK_enc (fun p : Addr × Res => V.ref p.1) kn nm (r, R1))
                · rcases mem_put hp with h | h
                  · rw [h]
                    exact ⟨resAt_updD hG11 hr11, res.1⟩
                  · exact ⟨resAt_updD hG11 (fs11.hR.2 p h).1, (fs11.hR.2 p h).2⟩
                · rcases mem_put hp with h | h
                  · rw [h]
                    exact ⟨res, resC, resN⟩
                  · exact gk p h
                · have eK : lawK (putS kn nm (r, R1)) srcs nm = some R1 := by
                    unfold lawK
                    rw [ht, get_put, if_pos rfl]
                    rfl
                  rw [eK]
                  refine ⟨?_, res.1, resC⟩
                  have rn' : rowsC cs2 (⟨nm, t, l.map depO, resD R1⟩ : Row).n = [] := rn
                  rw [show rowsC (addC cs2 ⟨nm, t, l.map depO, resD R1⟩) nm = [⟨nm, t, l.map depO, resD R1⟩] from rows_add_new rn']
                  exact find_hit rfl rfl (told_pd w few2 dok).nb
              · have kle : kd ≤ 1 := by
                  have : ¬ 1 < kd := fun h => kp2 (decide_eq_true h)
                  omega
                refine ⟨_, _, _, _, _, _, kn, cs2, rfl, fsE.ch, fsE.bx, fsE.hp, fsE.hR, gk, fsE.ca, fsE.rr, ⟨len2, by omega⟩, freshq kn cs2 (fun _ _ => rfl) rows2, keepq kn cs2 (fun _ _ => rfl) rows2 ?_⟩
                refine .inr ⟨w, ?_⟩
                rw [none2 kle w, nmK]
                rfl
            · have kle : kd ≤ 1 := by
                have : ¬ 0 < kd := fun h => kp (decide_eq_true h)
                omega
              have fsE := fs9
              refine ⟨_, _, _, _, _, _, kn, cs2, rfl, fsE.ch, fsE.bx, fsE.hp, fsE.hR, gk, fsE.ca, fsE.rr, ⟨len2, by omega⟩, freshq kn cs2 (fun _ _ => rfl) rows2, keepq kn cs2 (fun _ _ => rfl) rows2 ?_⟩
              refine .inr ⟨w, ?_⟩
              rw [none2 kle w, nmK]
              rfl
            · have fsE := fs9
              refine ⟨_, _, _, _, _, _, kn, cs2, rfl, fsE.ch, fsE.bx, fsE.hp, fsE.hR, gk, fsE.ca, fsE.rr, ⟨len2, by omega⟩, freshq kn cs2 (fun _ _ => rfl) rows2, keepq kn cs2 (fun _ _ => rfl) rows2 ?_⟩
              exact .inl ⟨Bool.eq_false_iff.mpr w, nmK⟩
    · rintro σ H3 ⟨y5, y6, y7, y8, y9, y10, kn, cs, rfl, ch3, b3, hp2, hR, gk, ca, rr, ⟨lcs, lkn⟩, fresh, eqs⟩
      rw [List.length_map, List.take_length] at eqs
      refine ⟨.ref G, rfl, q H3 G kn cs ch3 ⟨dg, b3⟩ nG Gdc hR gk ca rr ⟨fun n hn => ?_, fun n t ht => ?_⟩ (by rw [List.length_map] at lcs; omega)⟩
      · unfold lawK
        rw [hn]
      · exact eqs n ((memz n).mpr (List.mem_map.mpr ⟨(n, t), get_some ht, rfl⟩)) t ht
end
end K07

namespace K07
open PySem PySem.Spec PyProof.Rows L2 Pg
def spLater (K : PySem.W.Frag) (C : Addr) : Sp := fun vs H Q _ => ∃ (hd c dc G D : Addr) (hs : List (Str × Str)) (kn : List (Str × (Addr × Res))) (srcs : List (Str × Str)) (att : Int) (cs : List (Str × List Row)), vs = [.ref hd, .ref c, .ref G, .ref D, .int att] ∧ DictS H hd hs ∧ hs.length ≤ 1000 ∧
  CAt K C H c dc cs ∧ cs.length ≤ 12 ∧ DictRes K H G kn ∧ GoodK kn srcs ∧ DictS H D srcs ∧ SrcOk srcs ∧ (∀ p ∈ srcs, NoL p.2 ∧ Codes p.1) ∧ hd ≠ dc ∧ hd ≠ G ∧ hd ≠ D ∧ D ≠ dc ∧ G ≠ dc ∧ G ≠ D ∧
  ∀ H', (∀ p o, p ≠ hd → p ≠ dc → H p = some o → H' p = some o) → Q .non H'
section
variable {P : Program} {w : World} {K : PySem.W.Frag} {mg : Str → Option Value} {base : Heap} {f nA CCache : Addr} {fd : FuncData}
theorem ok_law_later (F : Fun K "_law_later" "_law_later" s_law_later f fd) (z : Z mg)
    (claw_rendered : Cal P w K mg base "_law_rendered" 5 ["name", "text", "attempts", "found"] (spRendered K)) (claw_told : Cal P w K mg base "_law_told" 4 ["known", "sources", "name"] (spToldL K))
    (cCache_add : CalM P w K mg base CCache "add" 2 ["self", "rendering"] (spCAdd K CCache)) : FnOk P w K mg base CX0 6 f fd ["handed", "cache", "known", "sources", "attempts"] (spLater K CCache) := by
  refine F.ok sc_law_later (fun vs H Q E h => ?_) (fun cdv A outer s H vs Q E hr h => ?_)
  · obtain ⟨hd, c, dc, G, D, hs, kn, srcs, att, cs, rfl, _⟩ := h
    rfl
  · obtain ⟨hd, c, dc, G, D, hs, kn, srcs, att, cs, rfl, hh, lhs, ca0, lcs, hR0, gk, hD0, ⟨nd, few, ok⟩, txt, hd1, hd2, hd3, Ddc, Gdc, GD, q⟩ := h
    refine ⟨_, (pss_cons (ps_dput (hu_of hr) (pv 0) pe_str pe_str rfl)
      (pss_one (ps_lock (ps_for PassesOwn.never rfl (pi_keys (pv 3)) (pg_name (i := 5) sc_law_later.nd rfl (Or.inl rfl))
        (pss_cons (ps_set (i := 6) sc_law_later.nd rfl (Or.inl rfl) (pe_cal claw_told (hr.mono (by decide)) (by rfl) (pa_cons (pv 2) (pa_cons (pv 3) (pa_cons (pv 5) pa_nil)))))
        (pss_one (ps_if (PW.pt (pw_and (pt_cmpR op_isN (pe_dget1 (hu_of hr) (pv 2) (pv 5) ⟨by rfl, by rfl, by rfl, by rfl⟩) pe_non (nomark _)) (pw_and1 (pt_cmpR (op_eqD hr.units) (pe_lc (own := [("other", 7), ("result", 8)]) (g := (gTup K 2 (gCons (gName 7) (gCons (gName 8) gNil)))) rfl sc_law_later.nd (pi_list (pv 6)) (blkOk_by (own := [("other", 7), ("result", 8)]) (N := ["handed", "cache", "known", "sources", "attempts", "name", "found", "other", "result"]) (sc := defScope s_law_later) (by decide +kernel)) (fun _ _ _ _ _ => (pg_tupK (K := K) rfl rfl (pgs_cons (pg_name (i := 7) sc_law_later.nd rfl (Or.inl rfl)) (pgs_cons (pg_name (i := 8) sc_law_later.nd rfl (Or.inl rfl)) pgs_nil)))) (fun _ _ _ _ _ => (pts_one (pt_cmpR op_isN (pv 8) pe_non (nomark _)))) (fun _ _ _ _ _ => (pv 7))) (pe_lst pa_nil) (nomark _)))))
          (pss_one (ps_expr (pe_calM cCache_add (hr.mono (by decide)) (pv 1) (pa_cons (pe_tup (pa_cons (pv 5) (pa_cons (pe_dget (hu_of hr) (pv 3) (pv 5) (fun _ _ => rfl)) (pa_cons (pe_callTy call_tuple_of (by rfl) z.tuple (by decide +kernel) (pa_cons (pv 6) pa_nil)) (pa_cons (pe_cal claw_rendered (hr.mono (by decide)) (by rfl) (pa_cons (pv 5) (pa_cons (pe_dget (hu_of hr) (pv 3) (pv 5) (fun _ _ => rfl)) (pa_cons (pv 4) (pa_cons (pv 6) pa_nil))))) pa_nil))))) pa_nil))))
          pss_nil))))))), ?_⟩
    refine ⟨.ref hd, rfl, hd, _, rfl, DPut.k (k := Sum.inr "zz") hh (by unfold enc; rw [List.length_map]; exact small5 (by omega)), ?_⟩
    -- locked
    have but1 : ∀ {o : HO}, But hd H (upd H hd o) := fun {o} q' o' e n => by rw [upd_ne n]; exact e
    have chd : c ≠ hd := by
      obtain ⟨dx', kvs', h1, _⟩ := ca0
      exact ne_of h1 hh (by intro z; cases z)
    have ca1 : CAt K CCache (upd H hd (.dK (putK (enc V.str hs) (Sum.inr "zz") (.str "later")))) c dc cs := ca0.but but1 (odd_d hh) chd (Ne.symm hd1)
    have hR1 : DictRes K (upd H hd (.dK (putK (enc V.str hs) (Sum.inr "zz") (.str "later")))) G kn := ⟨by rw [upd_ne (Ne.symm hd2)]; exact hR0.1, fun p hp => ⟨resAt_updD hh (hR0.2 p hp).1, (hR0.2 p hp).2⟩⟩
    have hD1 : (upd H hd (.dK (putK (enc V.str hs) (Sum.inr "zz") (.str "later")))) D = some (.dK (enc V.str srcs)) := by rw [upd_ne (Ne.symm hd3)]; exact hD0
    have kp1 : ∀ p o, p ≠ hd → p ≠ dc → H p = some o → (upd H hd (.dK (putK (enc V.str hs) (Sum.inr "zz") (.str "later")))) p = some o := fun p o n1 _ e => by rw [upd_ne n1]; exact e
    refine ⟨D, _, hD1, trivial, fun od => ?_⟩
    generalize upd H hd (.dK (putK (enc V.str hs) (Sum.inr "zz") (.str "later"))) = H1 at ca1 hR1 hD1 kp1 ⊢
    have cD : c ≠ D := by
      obtain ⟨dx', kvs', h1, _⟩ := ca1
      exact ne_of h1 hD1 (by intro z; cases z)
    have ca2 : CAt K CCache (upd H1 D (.frz od (.dK (enc V.str srcs)))) c dc cs := ca1.but (fun q' o' e n => by rw [upd_ne n]; exact e) (odd_d hD1) cD (Ne.symm Ddc)
    have hR2 : DictRes K (upd H1 D (.frz od (.dK (enc V.str srcs)))) G kn := ⟨by rw [upd_ne GD]; exact hR1.1, fun p hp => ⟨resAt_updD hD1 (hR1.2 p hp).1, (hR1.2 p hp).2⟩⟩
    have hD2 : (upd H1 D (.frz od (.dK (enc V.str srcs)))) D = some (.frz od (.dK (enc V.str srcs))) := upd_same
    have kp2 : ∀ p o, p ≠ dc → p ≠ D → H1 p = some o → (upd H1 D (.frz od (.dK (enc V.str srcs)))) p = some o := fun p o _ n e => by rw [upd_ne n]; exact e
    generalize upd H1 D (.frz od (.dK (enc V.str srcs))) = H2 at ca2 hR2 hD2 kp2 ⊢
    have lensrc : (enc V.str srcs).length = srcs.length := by unfold enc; rw [List.length_map]
    refine ⟨.ref D, rfl, D, od, rfl, .inl ⟨enc V.str srcs, hD2, ?_⟩⟩
    refine for_keysL (fun i σ H3 => ∃ (y5 y6 y7 y8 : Option V) (cs3 : List (Str × List Row)), σ = [some (.ref hd), some (.ref c), some (.ref G), some (.ref D), some (.int att), y5, y6, y7, y8] ∧ H3 D = some (.frz od (.dK (enc V.str srcs))) ∧ CAt K CCache H3 c dc cs3 ∧ cs3.length ≤ 12 + i ∧
        DictRes K H3 G kn ∧ ∀ p o, p ≠ dc → p ≠ D → H1 p = some o → H3 p = some o)
      ⟨_, _, _, _, cs, rfl, hD2, ca2, by omega, hR2, kp2⟩ (fun i σ H3 _ ⟨_, _, _, _, _, _, e, _⟩ => e) ?_ ?_
    · rintro i k v σ H3 hk ⟨z5, z6, z7, z8, cs3, rfl, hD3, ca3, l3, hR3, kp3⟩
      obtain ⟨⟨nm, t⟩, hs, ek⟩ : ∃ p, srcs[i]? = some p ∧ (k, v) = (Sum.inr p.1, V.str p.2) := by
        unfold enc at hk
        rw [List.getElem?_map] at hk
        cases e : srcs[i]? with
        | none => rw [e] at hk; cases hk
        | some p => rw [e] at hk; exact ⟨p, rfl, (Option.some.inj hk).symm⟩
      obtain ⟨rfl, rfl⟩ : k = Sum.inr nm ∧ v = V.str t := Prod.mk.inj ek
      have mem := List.mem_of_getElem? hs
      have il : i < srcs.length := (List.getElem?_eq_some_iff.mp hs).1
      have ht : getS srcs nm = some t := get_of_mem nd mem
      obtain ⟨n6, t60, codes⟩ := ok _ mem
      have n6 : nm.length ≤ 6 := n6
      have t60 : t.length ≤ 60 := t60
      have codes : Codes t := codes
      have ncd : Codes nm := (txt _ mem).2
      have rd3 : RdS H3 D srcs := .inr ⟨od, hD3⟩
      -- found
      refine ⟨_, rfl, _, rfl, _, rfl, G, D, kn, srcs, nm, rfl, hR3, rd3, ⟨nd, few, ok⟩, fun H4 Fa s4 nF deps => ?_⟩
      have eT : toldIn (lawK kn srcs) srcs nm = toldN (lawK kn srcs) nm (segsOf nm t) := by
        unfold toldIn
        rw [ht]
        rfl
      rw [eT] at deps
      have named := told_named (lawK kn srcs) nm t
      have few2 : (toldN (lawK kn srcs) nm (segsOf nm t)).length ≤ 250 := by
        have l1 := toldN_len (lawK kn srcs) nm (segsOf nm t)
        have l2 := segs_few nameB (aft nm) t t.length 0 0 rfl (Nat.zero_le _)
        have l3 : (segsOf nm t).length ≤ 121 := by unfold segsOf; omega
        omega
      have dok : ∀ d ∈ toldN (lawK kn srcs) nm (segsOf nm t), (d.1.length ≤ 6 ∧ Codes d.1) ∧ ∀ r, d.2 = some r → Rok r := fun d hd => by
        obtain ⟨h1, h2⟩ := named d hd
        refine ⟨⟨name_len h1, name_codes h1⟩, fun r hr => ?_⟩
        rw [h2] at hr
        have g := gk.at hr
        exact ⟨g.1.1, g.2.1⟩
      obtain ⟨l, hl⟩ : ∃ l, l = toldN (lawK kn srcs) nm (segsOf nm t) := ⟨_, rfl⟩
      rw [← hl] at deps few2 dok
      have names : ∀ d ∈ l, nameB d.1 = true := fun d hd => (named d (by rw [hl] at hd; exact hd)).1
      have hR4 : DictRes K H4 G kn := ⟨s4 _ _ hR3.1, fun p hp => ⟨(hR3.2 p hp).1.same s4, (hR3.2 p hp).2⟩⟩
      have skip : ∀ {H' : Hp}, Same H3 H' → ∃ (y5 y6 y7 y8 : Option V) (cs3 : List (Str × List Row)), [some (.ref hd), some (.ref c), some (.ref G), some (.ref D), some (.int att), some (.str nm), some (.ref Fa), z7, z8] = [some (.ref hd), some (.ref c), some (.ref G), some (.ref D), some (.int att), y5, y6, y7, y8] ∧ H' D = some (.frz od (.dK (enc V.str srcs))) ∧ CAt K CCache H' c dc cs3 ∧ cs3.length ≤ 12 + (i + 1) ∧
          DictRes K H' G kn ∧ ∀ p o, p ≠ dc → p ≠ D → H1 p = some o → H' p = some o := fun {H'} s' =>
        ⟨_, _, _, _, cs3, rfl, s' _ _ hD3, ca3.same s', by omega, ⟨s' _ _ hR3.1, fun p hp => ⟨(hR3.2 p hp).1.same s', (hR3.2 p hp).2⟩⟩, fun p o n1 n2 e => s' _ _ (kp3 p o n1 n2 e)⟩
      have dk := DGet.k (k := Sum.inr nm) hR4.1
      rw [valV_enc] at dk
      refine ⟨_, rfl, G, rfl, .inl ⟨_, .inl hR4.1⟩, _, rfl, _, dk, rfl, _, rfl, ite2 (fun en => ?_) (fun en => iteF (skip s4))⟩
      obtain ⟨ts, hF, pr⟩ := deps
      refine ⟨.ref Fa, rfl, Fa, rfl, ⟨_, .inl (.inl hF)⟩, fun E0 nE => ?_⟩
      refine lc_unk hF pr nE (by omega) ?_ ?_
      · intro a x v H' R S sq yesR noS
        refine ⟨a, _, rfl, sq, rfl, _, _, rfl, _, _, rfl, rfl, rfl, _, rfl, rfl, _, rfl, ite2 (fun e => ?_) (fun e => ?_)⟩
        · exact ⟨_, rfl, yesR (of_decide_eq_true e)⟩
        · exact noS fun h => e (decide_eq_true h)
      · refine ⟨Nat.zero_le _, fun E1 nE1 => ?_⟩
        have dU : Dp K (upd (upd H4 E0 (.lst ((unk l).map V.str))) E1 (.lst [])) (.ref E0) (.list ((unk l).map PyData.str)) := .lst (.inl (.inl (same_new nE1 _ _ upd_same))) (strs_dp (unk l))
        refine ⟨_, _, dU, .lst (.inl (.inl upd_same)) .nil, unk_shaped names, by decide, ?_⟩
        rw [eqv_strs, unk_nil]
        have s5 := (same_new (o := .lst ((unk l).map V.str)) nE).trans (same_new (o := .lst []) nE1)
        clear dU
        generalize upd (upd H4 E0 (.lst ((unk l).map V.str))) E1 (.lst []) = H5 at s5 ⊢
        have s35 := s4.trans s5
        refine ⟨_, rfl, ite2 (fun w => ?_) (fun w => skip s35)⟩
        have hF5 := s5 _ _ hF
        have pr5 : Paired (TDep K H5) ts l := Paired.mapP pr fun _ _ x => x.same s5
        have ca5 := ca3.same s35
        have rd5 := rd3.same s35
        have src : ∀ {H' : Hp}, Same H5 H' → DGet H' D (.str nm) (some (.str t)) := fun {H'} s' => by
          have := (rd5.same s').get nm
          rw [ht] at this
          exact this
        have hds := told_deps (R := lawK kn srcs) (nm := nm) (l := segsOf nm t) (by rw [← hl]; exact w)
        rw [← hl] at hds
        have good : ∀ n, (((lawK kn srcs n).getD nothing).small ∧ Within (allLinks srcs) ((lawK kn srcs n).getD nothing)) ∧ RCodes ((lawK kn srcs n).getD nothing) := fun n => by
          cases e : lawK kn srcs n with
          | none => exact ⟨⟨rok_nothing.1, List.nodup_nil, by intro x hx; cases hx⟩, rok_nothing.2⟩
          | some r => exact ⟨(gk.at e).1, (gk.at e).2.1⟩
        have sm : ∀ r ∈ ress (depsN (fun n => (lawK kn srcs n).getD nothing) nm (segsOf nm t)), (r.small ∧ Within (allLinks srcs) r) ∧ RCodes r := fun r hr => by
          obtain ⟨d, hd, rfl⟩ := List.mem_map.mp hr
          obtain ⟨n, hn⟩ := deps_mem hd
          rw [hn]
          exact good n
        have fineS := segs_kinds nameB (aft nm) t t.length 0 0 rfl (Nat.le_refl _) (Nat.zero_le _)
        have fit := deps_fit (fun n => (lawK kn srcs n).getD nothing) nm (segsOf nm t) (fun s hs => (fineS s hs).1)
        have lim : (allLinks srcs).length ≤ 2000 := by
          have := all_few (srcs := srcs) fun p hp => (ok p hp).2.1
          omega
        have res := rendered_small (U := allLinks srcs) (nm := nm) (t := t) (att := att) (fs := ress (depsN (fun n => (lawK kn srcs n).getD nothing) nm (segsOf nm t))) lim (all_short srcs) n6
          (fun r hr => (sm r hr).1)
          (fun s hs hk => List.mem_flatMap.mpr ⟨(nm, t), mem, List.mem_map.mpr ⟨s, List.mem_filter.mpr ⟨hs, decide_eq_true hk⟩, rfl⟩⟩)
        have resC := rendered_codes (att := att) ncd codes fit fun r hr => (sm r hr).2
        obtain ⟨dx, kvs, hc, hdc, hrows, hfine, hfew⟩ := ca5
        refine ⟨.ref c, rfl, c, dx, _, rfl, hc, rfl, _, rfl, _, rfl, _, rfl, D, .str t, rfl, src (Same.refl _), .ref Fa, rfl, Fa, _, rfl, .inl ⟨.inl (.inl hF5), fun tp ntp => ?_⟩⟩
        have sp := same_new (o := .tup (ts.map V.ref)) ntp
        have depsA : DepsAt K (upd H5 tp (.tup (ts.map V.ref))) Fa (depsN (fun n => (lawK kn srcs n).getD nothing) nm (segsOf nm t)) := tdeps_some (by rw [← hds]; exact ⟨ts, sp _ _ hF5, Paired.mapP pr5 fun _ _ x => x.same sp⟩)
        refine ⟨_, rfl, _, rfl, _, rfl, D, .str t, rfl, src sp, _, rfl, _, rfl, nm, t, att, Fa, _, rfl, by omega, codes, depsA, fit, fun d hd => (sm d.2 (List.mem_map.mpr ⟨d, hd, rfl⟩)).1.1, fun H10 r s10 hr => ?_⟩
        generalize renderedN nm t att (ress (depsN (fun n => (lawK kn srcs n).getD nothing) nm (segsOf nm t))) = R1 at res resC hr
        refine ⟨by show 4 ≤ sizeLine; decide, fun T nT => ?_⟩
        have sT := same_new (o := .tup [V.str nm, .str t, .ref tp, .ref r]) nT
        have s3T := s35.trans (sp.trans (s10.trans sT))
        have s5T := sp.trans (s10.trans sT)
        have htp := sT _ _ (s10 _ _ (@upd_same H5 tp (.tup (ts.map V.ref))))
        have hrT := hr.same sT
        obtain ⟨vs5, hv5, da⟩ := tdeps_lat (p := Fa) ⟨ts, s5T _ _ hF5, Paired.mapP pr5 fun _ _ x => x.same s5T⟩ w
        rw [s5T _ _ hF5] at hv5
        cases hv5
        have caT := ca3.same s3T
        refine ⟨c, dc, cs3, .ref T, ⟨nm, t, l.map depO, resD R1⟩, rfl, caT, .tup (.inl (.inl upd_same)) (.cons (.str _) (.cons (.str _) (.cons (.tup (.inl (.inl htp)) da) (.cons (res_dp hrT) .nil)))), row_pd ⟨n6, ncd⟩ ⟨by omega, codes⟩ w few2 dok ⟨res.1, resC⟩, by omega, fun H11 ca11 kp11 => ?_⟩
        have off : Off dc _ H11 := ⟨kp11, cat_dic caT⟩
        refine ⟨_, _, _, _, _, rfl, kp11 _ _ (s3T _ _ hD3) Ddc, ca11, Nat.le_trans (len_add _ _) (by omega), off.dres Gdc ⟨s3T _ _ hR3.1, fun p hp => ⟨(hR3.2 p hp).1.same s3T, (hR3.2 p hp).2⟩⟩, fun p o n1 n2 e => kp11 _ _ (s3T _ _ (kp3 p o n1 n2 e)) n1⟩
    · rintro σ H3 ⟨y5, y6, y7, y8, cs3, rfl, hD3, ca3, l3, hR3, kp3⟩
      refine ⟨hD3, q _ fun p o n1 n2 e => ?_⟩
      by_cases h : p = D
      · subst h
        rw [upd_same, ← e]
        exact hD0.symm
      · rw [upd_ne h]
        exact kp3 p o n2 h (kp1 p o n1 n2 e)
end
end K07

namespace K07
open PySem PySem.Spec PyProof.Rows L2 Pg
def spLaw (K : PySem.W.Frag) : Sp := fun vs H Q _ => ∃ (a : Addr) (ns : List Int), vs = [.ref a] ∧ SqL K H a (ns.map V.int) ∧ ns.length ≤ 63 ∧ ∀ H', Q (.bl true) H'
/-! ### the data that the law compares -/
def okD : Option Res → PyData
  | none => .none
  | some r => resD r
def tdD (d : Str × Option Res) : PyData := .tuple [.str d.1, okD d.2]
theorem ov_dp {K : PySem.W.Frag} {H : Hp} {v : V} {o : Option Res} (h : OV K H v o) : Dp K H v (okD o) := by
  cases o with
  | none =>
    obtain rfl : v = .non := h
    exact .non
  | some r =>
    obtain ⟨t, rfl, h⟩ := h
    exact res_dp h
theorem tdeps_dp {K : PySem.W.Frag} {H : Hp} {p : Addr} {l : List (Str × Option Res)} (h : TDeps K H p l) : Dp K H (.ref p) (.list (l.map tdD)) := by
  obtain ⟨ts, h1, h2⟩ := h
  refine .lst (.inl (.inl h1)) ?_
  clear h1
  induction h2 with
  | nil => exact .nil
  | cons a b ih =>
    obtain ⟨v, h3, h4⟩ := a
    exact .cons (.tup h3 (.cons (.str _) (.cons (ov_dp h4) .nil))) ih
theorem names_dp {K : PySem.W.Frag} {H : Hp} {p : Addr} {xs : List Str} (h : H p = some (.lst (xs.map V.str))) : Dp K H (.ref p) (.list (xs.map PyData.str)) := .lst (.inl (.inl h)) (strs_dp xs)
theorem alike_ok {d : PyData} : decide (d.shown = d.shown) = true := decide_eq_true rfl
/-- what all of the law's comparisons rest on -/
structure Fine (kn : List (Str × (Addr × Res))) (srcs : List (Str × Str)) (pages : List Str) : Prop where
  gk : GoodK kn srcs
  ok : SrcOk srcs
  few : pages.length ≤ 6
  pn : ∀ x ∈ pages, x.length ≤ 6 ∧ Codes x
theorem Fine.sz {kn : List (Str × (Addr × Res))} {srcs : List (Str × Str)} {pages : List Str} (f : Fine kn srcs pages) (n : Str) : Sz 2 2731 (okD (lawK kn srcs n)) := by
  cases e : lawK kn srcs n with
  | none => exact Sz.none.mono (by decide) (by decide)
  | some r =>
    have g := f.gk.at e
    have l := links_few (srcs := srcs) fun p hp => (f.ok.2.2 p hp).2.1
    have l2 := f.ok.2.1
    exact res_sz (U := allLinks srcs) (by omega) g.1.1 g.1.2 g.2.1
theorem told_few {R : Str → Option Res} {srcs : List (Str × Str)} (ok : SrcOk srcs) (n : Str) : (toldIn R srcs n).length ≤ 242 := by
  unfold toldIn
  cases e : getS srcs n with
  | none => exact Nat.zero_le _
  | some t =>
    have t60 : t.length ≤ 60 := (ok.2.2 _ (get_some e)).2.1
    have l1 := toldN_len R n (segs nameB (aft n) t 0 0)
    have l2 := segs_few nameB (aft n) t t.length 0 0 rfl (Nat.zero_le _)
    show (toldN R n (segs nameB (aft n) t 0 0)).length ≤ 242
    omega
theorem told_is {R : Str → Option Res} {srcs : List (Str × Str)} {n : Str} {d : Str × Option Res} (h : d ∈ toldIn R srcs n) : nameB d.1 = true ∧ d.2 = R d.1 := by
  unfold toldIn at h
  cases e : getS srcs n with
  | none => rw [e] at h; cases h
  | some t =>
    rw [e] at h
    exact told_named R n t d h
theorem Fine.szT {kn : List (Str × (Addr × Res))} {srcs : List (Str × Str)} {pages : List Str} (f : Fine kn srcs pages) (n : Str) : Shows (.list ((toldIn (lawK kn srcs) srcs n).map tdD)) := by
  refine Sz.shows (D := 4) (M := 242 * (2739 + 1)) ((SzA.all (D := 3) (M := 2739) (n := 242) (fun d hd => ?_) (by rw [List.length_map]; exact told_few f.ok n)).lst) (by decide) (by decide)
  obtain ⟨q, hq, rfl⟩ := List.mem_map.mp hd
  obtain ⟨h1, h2⟩ := told_is hq
  have s := f.sz q.1
  rw [← h2] at s
  exact ((SzA.cons ((Sz.str (name_codes h1) (name_len h1)).mono (Nat.zero_le _) (Nat.le_refl _)) (SzA.cons s SzA.nil)).tup).mono (by decide) (by decide)
def reqU (R : Str → Option Res) (srcs : List (Str × Str)) (pages : List Str) : List Str := pages ++ srcs.flatMap fun p => needK R srcs p.1
theorem need_few {R : Str → Option Res} {srcs : List (Str × Str)} (ok : SrcOk srcs) (n : Str) : (needK R srcs n).length ≤ 242 := by
  unfold needK
  rw [List.length_map]
  exact told_few ok n
theorem reqU_len {R : Str → Option Res} {srcs : List (Str × Str)} {pages : List Str} (ok : SrcOk srcs) (few : pages.length ≤ 6) : (reqU R srcs pages).length ≤ 2910 := by
  have fl := flat_len (f := fun p : Str × Str => needK R srcs p.1) (n := 242) (fun p => need_few ok p.1) srcs
  have := ok.2.1
  unfold reqU
  rw [List.length_append]
  omega
theorem reqU_need {R : Str → Option Res} {srcs : List (Str × Str)} {pages : List Str} : ∀ x, ∀ y ∈ needK R srcs x, y ∈ reqU R srcs pages := fun x y hy => by
  obtain ⟨_, t, ht⟩ := needK_after hy
  exact List.mem_append_right _ (List.mem_flatMap.mpr ⟨(x, t), get_some ht, hy⟩)
theorem reach_U {R : Str → Option Res} {srcs : List (Str × Str)} {pages : List Str} {x : Str} (h : Reach (needK R srcs) pages x) : x ∈ reqU R srcs pages := by
  rcases reach_in' h with h | ⟨y, h⟩
  · exact List.mem_append_left _ h
  · exact reqU_need y x h
theorem Fine.reach {kn : List (Str × (Addr × Res))} {srcs : List (Str × Str)} {pages : List Str} (f : Fine kn srcs pages) {x : Str} (h : Reach (needK (lawK kn srcs) srcs) pages x) : x.length ≤ 6 ∧ Codes x := by
  rcases reach_in' h with h | ⟨y, h⟩
  · exact f.pn x h
  · obtain ⟨d, hd, rfl⟩ := List.mem_map.mp h
    have := (told_is hd).1
    exact ⟨name_len this, name_codes this⟩
theorem Fine.szR {kn : List (Str × (Addr × Res))} {srcs : List (Str × Str)} {pages xs : List Str} (f : Fine kn srcs pages) (nd : xs.Nodup) (h : ∀ x ∈ xs, Reach (needK (lawK kn srcs) srcs) pages x) : xs.length ≤ 2910 ∧ Shows (.list (xs.map PyData.str)) ∧ SeqAt.shaped (.list (xs.map PyData.str)) = true := by
  have l : xs.length ≤ 2910 := Nat.le_trans (few_of nd fun x hx => reach_U (h x hx)) (reqU_len f.ok f.few)
  have s := (strs_sz (fun x hx => f.reach (h x hx)) l).lst
  exact ⟨l, Sz.shows s (by decide) (by decide), s.shaped (by decide)⟩
theorem names_is {R : Str → Option Res} {srcs : List (Str × Str)} {tl : Tl} (h : ∀ n, toldOf tl n = toldIn R srcs n) : namesOf tl = needK R srcs := by
  funext x
  unfold needK
  rw [← h x]
  unfold namesOf toldOf
  cases getS tl x <;> rfl
/-- of the names that are required and not known, the last ones are due -/
theorem some_due {R : Str → Option Res} {srcs : List (Str × Str)} {pages xs : List Str} (hx : ∀ x, x ∈ xs ↔ Reach (needK R srcs) pages x) : ∀ (m : Nat) (x : Str), rest srcs x ≤ m → x ∈ xs → R x = none → (∀ n, getS srcs n = none → R n ≠ none) → ∃ y ∈ xs, R y = none ∧ allK (toldIn R srcs y) = true := by
  intro m
  induction m using Nat.strongRecOn with
  | _ m ih =>
    intro x hm hin hR no
    by_cases a : allK (toldIn R srcs x) = true
    · exact ⟨x, hin, hR, a⟩
    · obtain ⟨d, hd, hn⟩ : ∃ d ∈ toldIn R srcs x, d.2.isSome = false := by
        unfold allK at a
        have a := List.all_eq_false.mp (Bool.eq_false_iff.mpr a)
        obtain ⟨d, h1, h2⟩ := a
        exact ⟨d, h1, by simpa using h2⟩
      have dn : R d.1 = none := by
        rw [← (told_is hd).2]
        cases h : d.2 with
        | none => rfl
        | some r => rw [h] at hn; cases hn
      have mem : d.1 ∈ needK R srcs x := List.mem_map.mpr ⟨d, hd, rfl⟩
      obtain ⟨ah, t, ht⟩ := needK_after mem
      have din : d.1 ∈ xs := (hx _).mpr (.dep ((hx x).mp hin) mem)
      cases e : getS srcs d.1 with
      | none => exact absurd dn (no _ e)
      | some t2 =>
        have lt := rest_lt (srcs := srcs) e ah
        exact ih (rest srcs d.1) (by omega) d.1 (Nat.le_refl _) din dn no
theorem lawK_no {kn : List (Str × (Addr × Res))} {srcs : List (Str × Str)} {n : Str} (h : getS srcs n = none) : lawK kn srcs n ≠ none := by
  unfold lawK
  rw [h]
  intro z
  cases z
def due (R : Str → Option Res) (srcs : List (Str × Str)) (n : Str) : Bool := (R n).isNone && allK (toldIn R srcs n)
theorem SnapN.at {K : PySem.W.Frag} {C : Addr} {H0 H H' : Hp} {p hd dc : Addr} {pages : List Str} {tl : Tl} {R : Str → Option Res} {kv1 kv2 kv3 kv4 : List (Key × V)} (s : SnapN K C H0 H p pages tl R) (h1 : H0 hd = some (.dK kv1)) (h2 : H0 dc = some (.dK kv2)) (g1 : H hd = some (.dK kv3)) (g2 : H dc = some (.dK kv4))
    (kp : ∀ q o, q ≠ hd → q ≠ dc → H q = some o → H' q = some o) : SnapAt K C H' p pages tl R := by
  obtain ⟨dx, A, T, D, rs, a1, a2, a3, a4, a5, a6, fT, fD⟩ := s
  have off : ∀ {q : Addr} {o : HO}, H q = some o → (∀ kv, o ≠ .dK kv) → H' q = some o := fun {q o} e n => kp q o (by rintro rfl; rw [g1] at e; exact n _ (Option.some.inj e).symm) (by rintro rfl; rw [g2] at e; exact n _ (Option.some.inj e).symm) e
  have kT : KeepT K H H' := by
    rintro a xs ((e | ⟨o, e⟩) | e)
    · exact .inl (.inl (off e (by intro kv z; cases z)))
    · exact .inl (.inr ⟨o, off e (by intro kv z; cases z)⟩)
    · exact .inr e
  have nT : ∀ {q : Addr} {kv : List (Key × V)}, H0 q = some (.dK kv) → T ≠ q ∧ D ≠ q := fun {q kv} e => ⟨(by rintro rfl; rw [fT] at e; cases e), (by rintro rfl; rw [fD] at e; cases e)⟩
  refine ⟨dx, A, T, D, rs, off a1 (by intro kv z; cases z), kT _ _ a2, ⟨kp _ _ (nT h1).1 (nT h2).1 a3.1, fun p hp => ?_⟩, ⟨kp _ _ (nT h1).2 (nT h2).2 a4.at_, fun n v e => ov_keepT kT (a4.has n v e), a4.no, a4.small⟩, a5, a6⟩
  obtain ⟨ts, b1, b2⟩ := a3.2 p hp
  exact ⟨ts, off b1 (by intro kv z; cases z), Paired.mapP b2 fun _ _ ⟨v, x, y⟩ => ⟨v, kT _ _ x, ov_keepT kT y⟩⟩
end K07

namespace K07
open PySem PySem.Spec PyProof.Rows L2 Pg
def names9 : List Str := ["a", "b", "c", "d", "e", "ab", "bc", "cd", "zz"]
/-- what stands while the law compares -/
structure Base (K : PySem.W.Frag) (C : Addr) (H : Hp) (D G A sp : Addr) (srcs : List (Str × Str)) (kn : List (Str × (Addr × Res))) (pages : List Str) (tl : Tl) : Prop where
  hD : DictS H D srcs
  hR : DictRes K H G kn
  hA : SqT K H A (pages.map V.str)
  snap : SnapAt K C H sp pages tl (lawK kn srcs)
theorem Base.same {K : PySem.W.Frag} {C : Addr} {H H' : Hp} {D G A sp : Addr} {srcs : List (Str × Str)} {kn : List (Str × (Addr × Res))} {pages : List Str} {tl : Tl} (b : Base K C H D G A sp srcs kn pages tl) (s : Same H H') : Base K C H' D G A sp srcs kn pages tl :=
  ⟨s _ _ b.hD, b.hR.same s, seqT_same s b.hA, b.snap.same s⟩
section
variable {P : Program} {w : World} {K : PySem.W.Frag} {mg : Str → Option Value} {base : Heap} {f nA CCache CSnapshot : Addr} {fd : FuncData}
theorem ok_law (F : Fun K "law" "law" s_law f fd) (z : Z mg) (claw_digits : Cal P w K mg base "_law_digits" 2 ["script", "first", "last"] (spDigits K))
    (claw_draw : Cal P w K mg base "_law_draw" 1 ["box", "many"] spDraw) (claw_alike : CalG P w K mg base "_law_alike" 1 ["one", "two"] (spAlike K)) (claw_sources : Cal P w K mg base "_law_sources" 4 ["box", "most"] spSources)
    (claw_pages : Cal P w K mg base "_law_pages" 3 ["box"] spPagesL) (claw_known : Cal P w K mg base "_law_known" 1 ["known", "sources", "name"] (spKnownL K)) (claw_told : Cal P w K mg base "_law_told" 4 ["known", "sources", "name"] (spToldL K))
    (claw_filled : Cal P w K mg base "_law_filled" 6 ["box", "cache", "sources", "attempts"] (spFilled K CCache)) (claw_later : Cal P w K mg base "_law_later" 6 ["handed", "cache", "known", "sources", "attempts"] (spLater K CCache))
    (claw_needed : Cal P w K mg base "_law_needed" 5 ["known", "sources", "pages"] (spNeeded K)) (kCache : CalK P w K mg base "Cache" CCache 1 ["self"] (spCInit K CCache))
    (kSnapshot : CalK P w K mg base "Snapshot" CSnapshot 5 ["self", "sources", "pages", "attempts", "cache"] (spSInit K CSnapshot CCache))
    (cSnapshot_known : CalM P w K mg base CSnapshot "known" 1 ["self", "name"] (spSKnown K CSnapshot)) (cSnapshot_told : CalM P w K mg base CSnapshot "told" 1 ["self", "name"] (spSTold K CSnapshot))
    (cSnapshot_required : CalM P w K mg base CSnapshot "required" 2 ["self"] (spSReq K CSnapshot)) (cSnapshot_renderable : CalM P w K mg base CSnapshot "renderable" 3 ["self"] (spSRen K CSnapshot)) (cSnapshot_is_ready : CalM P w K mg base CSnapshot "is_ready" 3 ["self"] (spSReady K CSnapshot)) :
    FnG P w K mg base 9 f fd ["script"] (spLaw K) := by
  refine FnG.mk' F sc_law (fun vs H Q E h => ?_) (fun cdv A outer s H vs Q gd hr h => ?_)
  · obtain ⟨a, ns, rfl, _⟩ := h
    rfl
  · obtain ⟨a, ns, rfl, hs, few, q⟩ := h
    refine ⟨_, (pss_cons (ps_set (i := 1) sc_law.nd rfl (Or.inl rfl) (pe_lst (pa_cons (pe_cal claw_digits (hr.mono (by decide)) (by rfl) (pa_cons (pv 0) (pa_cons pe_int (pa_cons pe_int pa_nil)))) (pa_cons pe_int pa_nil))))
      (pss_cons (ps_for PassesOwn.never rfl (pi_range1 (by rfl) z.range (pa_cons pe_int pa_nil)) (pg_name (i := 2) sc_law.nd rfl (Or.inl rfl))
        (pss_cons (ps_set (i := 3) sc_law.nd rfl (Or.inr rfl) (pe_cal claw_sources (hr.mono (by decide)) (by rfl) (pa_cons (pv 1) (pa_cons pe_int pa_nil))))
        (pss_cons (ps_set (i := 4) sc_law.nd rfl (Or.inl rfl) (pe_op op_add pe_int (pe_cal claw_draw (hr.mono (by decide)) (by rfl) (pa_cons (pv 1) (pa_cons pe_int pa_nil)))))
        (pss_cons (ps_set (i := 5) sc_law.nd rfl (Or.inl rfl) (pe_mk0 kCache (hr.mono (by decide)) (by rfl)))
        (pss_cons (ps_set (i := 6) sc_law.nd rfl (Or.inr rfl) (pe_cal claw_filled (hr.mono (by decide)) (by rfl) (pa_cons (pv 1) (pa_cons (pv 5) (pa_cons (pv 3) (pa_cons (pv 4) pa_nil))))))
        (pss_cons (ps_set (i := 7) sc_law.nd rfl (Or.inl rfl) (pe_cal claw_pages (hr.mono (by decide)) (by rfl) (pa_cons (pv 1) pa_nil)))
        (pss_cons (ps_set (i := 8) sc_law.nd rfl (Or.inl rfl) (pe_callTy call_dictD (by rfl) z.dict (by decide +kernel) (pa_cons (pv 3) pa_nil)))
        (pss_cons (ps_set (i := 9) sc_law.nd rfl (Or.inl rfl) (pe_mkA kSnapshot (hr.mono (by decide)) (by rfl) (pa_cons (pv 8) (pa_cons (pv 7) (pa_cons (pv 4) (pa_cons (pv 5) pa_nil))))))
        (pss_cons (ps_expr (pe_cal claw_later (hr.mono (by decide)) (by rfl) (pa_cons (pv 8) (pa_cons (pv 5) (pa_cons (pv 6) (pa_cons (pv 3) (pa_cons (pv 4) pa_nil)))))))
        (C8.pss_cut (ps_for PassesOwn.never rfl (pi_list (pe_lst (pa_cons pe_str (pa_cons pe_str (pa_cons pe_str (pa_cons pe_str (pa_cons pe_str (pa_cons pe_str (pa_cons pe_str (pa_cons pe_str (pa_cons pe_str pa_nil))))))))))) (pg_name (i := 10) sc_law.nd rfl (Or.inl rfl))
          (C8.pss_cut (ps_if (pt_not (pt_val (pe_calG claw_alike gd (hr.mono (by decide)) (by rfl) (pa_cons (pe_calM cSnapshot_known (hr.mono (by decide)) (pv 9) (pa_cons (pv 10) pa_nil)) (pa_cons (pe_cal claw_known (hr.mono (by decide)) (by rfl) (pa_cons (pv 6) (pa_cons (pv 3) (pa_cons (pv 10) pa_nil)))) pa_nil)))))
            (pss_one (ps_ret pe_bl))
            pss_nil)
          (pss_one (ps_if (pt_not (pt_val (pe_calG claw_alike gd (hr.mono (by decide)) (by rfl) (pa_cons (pe_calM cSnapshot_told (hr.mono (by decide)) (pv 9) (pa_cons (pv 10) pa_nil)) (pa_cons (pe_cal claw_told (hr.mono (by decide)) (by rfl) (pa_cons (pv 6) (pa_cons (pv 3) (pa_cons (pv 10) pa_nil)))) pa_nil)))))
            (pss_one (ps_ret pe_bl))
            pss_nil))))
        (pss_cons (ps_set (i := 11) sc_law.nd rfl (Or.inl rfl) (pe_cal claw_needed (hr.mono (by decide)) (by rfl) (pa_cons (pv 6) (pa_cons (pv 3) (pa_cons (pv 7) pa_nil)))))
        (C8.pss_cut (ps_if (pt_not (pt_val (pe_calG claw_alike gd (hr.mono (by decide)) (by rfl) (pa_cons (pe_calM0 cSnapshot_required (hr.mono (by decide)) (pv 9)) (pa_cons (pv 11) pa_nil)))))
          (pss_one (ps_ret pe_bl))
          pss_nil)
        (pss_cons (ps_set (i := 12) sc_law.nd rfl (Or.inl rfl) (pe_lst pa_nil))
        (C8.pss_cut (ps_for PassesOwn.never rfl (pi_list (pv 11)) (pg_name (i := 10) sc_law.nd rfl (Or.inl rfl))
          (pss_one (ps_if (pt_cmpR op_isN (pe_cal claw_known (hr.mono (by decide)) (by rfl) (pa_cons (pv 6) (pa_cons (pv 3) (pa_cons (pv 10) pa_nil)))) pe_non (nomark _))
            (pss_one (ps_if (pt_cmpR (op_eqD hr.units) (pe_lc (own := [("other", 13), ("result", 14)]) (g := (gTup K 2 (gCons (gName 13) (gCons (gName 14) gNil)))) rfl sc_law.nd (pi_list (pe_cal claw_told (hr.mono (by decide)) (by rfl) (pa_cons (pv 6) (pa_cons (pv 3) (pa_cons (pv 10) pa_nil))))) (blkOk_by (own := [("other", 13), ("result", 14)]) (N := ["script", "box", "turn", "sources", "attempts", "cache", "known", "pages", "handed", "snapshot", "name", "needed", "due", "other", "result"]) (sc := defScope s_law) (by decide +kernel)) (fun _ _ _ _ _ => (pg_tupK (K := K) rfl rfl (pgs_cons (pg_name (i := 13) sc_law.nd rfl (Or.inl rfl)) (pgs_cons (pg_name (i := 14) sc_law.nd rfl (Or.inl rfl)) pgs_nil)))) (fun _ _ _ _ _ => (pts_one (pt_cmpR op_isN (pv 14) pe_non (nomark _)))) (fun _ _ _ _ _ => (pv 13))) (pe_lst pa_nil) (nomark _))
              (pss_one (ps_expr (pe_bm PySem.F.plainAttrs_list PySem.F.slot_list_append PySem.F.type_list_append mt_append (pv 12) (pa_cons (pv 10) pa_nil))))
              pss_nil))
            pss_nil)))
        (C8.pss_cut (ps_if (pt_not (pt_val (pe_calG claw_alike gd (hr.mono (by decide)) (by rfl) (pa_cons (pe_calM0 cSnapshot_renderable (hr.mono (by decide)) (pv 9)) (pa_cons (pv 12) pa_nil)))))
          (pss_one (ps_ret pe_bl))
          pss_nil)
        (C8.pss_cut (ps_if (pt_not (pt_val (pe_calG claw_alike gd (hr.mono (by decide)) (by rfl) (pa_cons (pe_calM0 cSnapshot_is_ready (hr.mono (by decide)) (pv 9)) (pa_cons (pe_cmpR (op_eqD hr.units) (pe_lc (own := [("name", 10)]) (g := (gName 10)) rfl sc_law.nd (pi_list (pv 11)) (blkOk_by (own := [("name", 10)]) (N := ["script", "box", "turn", "sources", "attempts", "cache", "known", "pages", "handed", "snapshot", "name", "needed", "due", "other", "result"]) (sc := defScope s_law) (by decide +kernel)) (fun _ _ _ _ _ => pg_name (i := 10) sc_law.nd rfl (Or.inl rfl)) (fun _ _ _ _ _ => (pts_one (pt_cmpR op_isN (pe_cal claw_known (hr.mono (by decide)) (by rfl) (pa_cons (pv 6) (pa_cons (pv 3) (pa_cons (pv 10) pa_nil)))) pe_non (nomark _)))) (fun _ _ _ _ _ => (pv 10))) (pe_lst pa_nil) (nomark _)) pa_nil)))))
          (pss_one (ps_ret pe_bl))
          pss_nil)
        (pss_one (ps_if (PW.pt (pw_and (pt_not (pt_val (pe_calM0 cSnapshot_is_ready (hr.mono (by decide)) (pv 9)))) (pw_and1 (pt_cmpR (op_eqD hr.units) (pv 12) (pe_lst pa_nil) (nomark _)))))
          (pss_one (ps_ret pe_bl))
          pss_nil))))))))))))))))))
      (pss_one (ps_ret pe_bl)))), ?_⟩
    refine ⟨.ref a, rfl, a, ns, 0, 63, rfl, hs, by decide, by decide, fun H1 p ds sm np hp fewd => ?_⟩
    refine ⟨by show 2 ≤ sizeLine; decide, fun b nb => ?_⟩
    have npb : p ≠ b := ne_of_none hp nb
    have box0 : Box (upd H1 b (.lst [.ref p, .int 0])) b := ⟨p, ds, 0, upd_same, by rw [upd_ne npb]; exact hp, npb, fewd⟩
    generalize upd H1 b (.lst [.ref p, .int 0]) = H2 at *
    clear hp npb nb sm
    refine ⟨4, rfl, by decide, by decide, ?_⟩
    refine for_range (lo := 0) (n := 4) (fun i σ H3 => ∃ y2 y3 y4 y5 y6 y7 y8 y9 y10 y11 y12 y13 y14 : Option V, σ = [some (.ref a), some (.ref b), y2, y3, y4, y5, y6, y7, y8, y9, y10, y11, y12, y13, y14] ∧ Box H3 b)
      ⟨_, _, _, _, _, _, _, _, _, _, _, _, _, rfl, box0⟩ ?_ ?_
    · rintro i σ H3 hi ⟨y2, y3, y4, y5, y6, y7, y8, y9, y10, y11, y12, y13, y14, rfl, hb⟩
      -- sources, attempts
      refine ⟨.ref b, rfl, b, 10, rfl, by decide, hb, fun D srcs H4 nD hD ndk sok d4 => ?_⟩
      refine ⟨.ref b, rfl, b, 4, rfl, by decide, d4.box, fun r H5 r0 r1 d5 => ⟨_, _, rfl, rfl, ?_⟩⟩
      have hbX := d5.box
      have Db : D ≠ b := by
        obtain ⟨_, _, _, e, _⟩ := d4.box
        exact ne_of hD e (by intro z; cases z)
      have hD5 : DictS H5 D srcs := d5.keep _ _ Db hD
      generalize hatt : (1 : Int) + r = att
      have lsrc : srcs.length ≤ 8 := by
        have := few_of ndk (ys := names8) fun x hx => by
          obtain ⟨p, hp, rfl⟩ := List.mem_map.mp hx
          exact (sok p hp).1
        rw [List.length_map] at this
        exact this
      have n8 : ∀ x ∈ names8, x.length ≤ 6 ∧ Codes x := fun x hx => by
        obtain ⟨l2, s2⟩ := names8_ok _ hx
        exact ⟨by omega, safe_codes (safe_of s2)⟩
      have sok2 : SrcOk srcs := ⟨ndk, by omega, fun p hp => ⟨(n8 _ (sok p hp).1).1, (sok p hp).2.1, safe_codes (sok p hp).2.2⟩⟩
      have txt : ∀ p ∈ srcs, NoL p.2 ∧ Codes p.1 := fun p hp => ⟨safe_nol (sok p hp).2.2, (n8 _ (sok p hp).1).2⟩
      clear hD d4 d5 nD
      -- the cache
      intro c dx nc ndx nex
      have s56 : Same H5 (upd (upd H5 dx (.own c)) c (.ins CCache dx [])) := (same_new ndx).trans (same_new (by rw [upd_ne (Ne.symm nex)]; exact nc))
      refine ⟨c, dx, rfl, upd_same, fun dc H6 ndc ca6 k6 => ⟨rfl, ?_⟩⟩
      have k56 : ∀ q o, q ≠ c → H5 q = some o → H6 q = some o := fun q o n e => k6 q o (s56 _ _ e) n
      have Dc : D ≠ c := ne_of_none hD5 nc
      have hD6 : DictS H6 D srcs := k56 _ _ Dc hD5
      have Ddc : D ≠ dc := ne_of_none (s56 _ _ hD5) ndc
      have box6 : Box H6 b := by
        obtain ⟨dg, ds, n, e1, e2, r⟩ := hbX
        exact ⟨dg, ds, n, k56 _ _ (ne_of_none e1 nc) e1, k56 _ _ (ne_of_none e2 nc) e2, r⟩
      clear s56 k6 hbX ndx nex
      -- what is known
      refine ⟨.ref b, rfl, .ref c, rfl, .ref D, rfl, _, rfl, b, c, dc, D, srcs, att, by rw [← hatt]; rfl, box6, ca6, hD6, sok2, txt, Ddc, fun H7 G kn cs ch7 box7 nG Gdc hR7 gk ca7 rr7 kno7 lcs => ?_⟩
      have hD7 : DictS H7 D srcs := ch7.keep _ _ Db Ddc hD6
      have GD : G ≠ D := (ne_of_none hD6 nG).symm
      have Gb : G ≠ b := by
        obtain ⟨dg, ds, n, e1, _⟩ := box6
        exact (ne_of_none e1 nG).symm
      -- pages
      refine ⟨.ref b, rfl, b, rfl, box7, fun A pages H8 nA hA ndp allp lp d8 => ?_⟩
      have kT8 := d8.keepT (K := K) box7
      have hD8 : DictS H8 D srcs := d8.keep _ _ Db hD7
      have hR8 : DictRes K H8 G kn := ⟨d8.keep _ _ Gb hR7.1, fun p hp => ⟨resAt_keepT kT8 (hR7.2 p hp).1, (hR7.2 p hp).2⟩⟩
      have ca8 := ca7.drew d8 box7
      have box8 := d8.box
      have Ab : A ≠ b := by
        obtain ⟨dg, ds, n, e1, _⟩ := box8
        exact ne_of hA e1 (by intro z; cases z)
      clear d8 kT8 ca7 hR7 hD7 box7 nA
      -- handed
      refine ⟨.ref D, rfl, D, _, rfl, .inl hD8, fun hd nhd => ?_⟩
      obtain ⟨kvc, hdc8⟩ := cat_dic ca8
      have hd1 : hd ≠ dc := (ne_of_none hdc8 nhd).symm
      have hd2 : hd ≠ G := (ne_of_none hR8.1 nhd).symm
      have hd3 : hd ≠ D := (ne_of_none hD8 nhd).symm
      have s9 := same_new (o := .dK (enc V.str srcs)) nhd
      have hh9 := @upd_same H8 hd (.dK (enc V.str srcs))
      generalize upd H8 hd (.dK (enc V.str srcs)) = H9 at s9 hh9 ⊢
      -- the snapshot
      refine ⟨.ref hd, rfl, .ref A, rfl, _, rfl, .ref c, rfl, ?_⟩
      intro sp dx2 nsp ndx2 nex2
      have s10 : Same H9 (upd (upd H9 dx2 (.own sp)) sp (.ins CSnapshot dx2 [])) := (same_new ndx2).trans (same_new (by rw [upd_ne (Ne.symm nex2)]; exact nsp))
      have s8_10 := s9.trans s10
      have hsp10 := @upd_same (upd H9 dx2 (.own sp)) sp (.ins CSnapshot dx2 [])
      generalize upd (upd H9 dx2 (.own sp)) sp (.ins CSnapshot dx2 []) = H10 at s10 s8_10 hsp10 ⊢
      have ca10 := ca8.same s8_10
      have hh10 := s10 _ _ hh9
      have hdc10 := s8_10 _ _ hdc8
      refine ⟨sp, hd, A, c, dc, dx2, srcs, pages, att, cs, by rw [← hatt]; rfl, hsp10, hh10, sok2, .inl (.inl (s8_10 _ _ hA)), ca10, rr7, fun H11 tl R k11 snap kno tolds => ⟨rfl, ?_⟩⟩
      obtain rfl : R = lawK kn srcs := funext (knows_one kno kno7)
      have tolds : ∀ n, toldOf tl n = toldIn (lawK kn srcs) srcs n := tolds
      have nn : ∀ {q : Addr} {o : HO}, H8 q = some o → q ≠ sp := fun {q o} e => ne_of_none (s9 _ _ e) nsp
      have k8 : ∀ {q : Addr} {o : HO}, H8 q = some o → H11 q = some o := fun {q o} e => k11 q o (nn e) (s8_10 _ _ e)
      have hh11 := k11 hd _ (ne_of_none hh9 nsp) hh10
      have ca11 := ca10.off hsp10 k11
      have kT11 : KeepT K H8 H11 := by
        rintro q xs ((e | ⟨o, e⟩) | e)
        · exact .inl (.inl (k8 e))
        · exact .inl (.inr ⟨o, k8 e⟩)
        · exact .inr e
      have hR11 : DictRes K H11 G kn := ⟨k8 hR8.1, fun p hp => ⟨resAt_keepT kT11 (hR8.2 p hp).1, (hR8.2 p hp).2⟩⟩
      obtain ⟨kvd, hdc11⟩ := cat_dic ca11
      -- later
      refine ⟨.ref hd, rfl, .ref c, rfl, .ref G, rfl, .ref D, rfl, _, rfl, hd, c, dc, G, D, srcs, kn, srcs, att, cs, by rw [← hatt]; rfl, hh11, by omega, ca11, lcs, hR11, gk, k8 hD8, sok2, txt, hd1, hd2, hd3, Ddc, Gdc, GD, fun H12 k12 => ?_⟩
      have k8' : ∀ {q : Addr} {o : HO}, H8 q = some o → q ≠ dc → H12 q = some o := fun {q o} e n => k12 q o (ne_of_none e nhd) n (k8 e)
      have offd : ∀ {q : Addr} {o : HO}, H8 q = some o → (∀ kv, o ≠ .dK kv) → H12 q = some o := fun {q o} e n => k8' e (by rintro rfl; rw [hdc8] at e; exact n _ (Option.some.inj e).symm)
      have kT12 : KeepT K H8 H12 := by
        rintro q xs ((e | ⟨o, e⟩) | e)
        · exact .inl (.inl (offd e (by intro kv z; cases z)))
        · exact .inl (.inr ⟨o, offd e (by intro kv z; cases z)⟩)
        · exact .inr e
      have box12 : Box H12 b := by
        obtain ⟨dg, ds, n, e1, e2, r⟩ := box8
        exact ⟨dg, ds, n, offd e1 (by intro kv z; cases z), offd e2 (by intro kv z; cases z), r⟩
      have bs : Base K CSnapshot H12 D G A sp srcs kn pages tl := ⟨k8' hD8 Ddc, ⟨k8' hR8.1 Gdc, fun p hp => ⟨resAt_keepT kT12 (hR8.2 p hp).1, (hR8.2 p hp).2⟩⟩, kT12 _ _ (.inl (.inl hA)), snap.at hh10 hdc10 hh11 hdc11 k12⟩
      have fine : Fine kn srcs pages := ⟨gk, sok2, lp, fun x hx => n8 x (allp x hx)⟩
      clear k8' offd kT12 kT11 k8 nn k12 k11 hR11 ca11 hdc11 hh11 snap kno ca10 hh10 hdc10 hsp10 s8_10 s10 s9 hh9 nsp ndx2 nex2 ca8 hR8 hD8 hA box8 hdc8 nhd ca6 hD6 k56 box6 ch7 hD5 nc ndc
      have req : ReqOk pages (reqU (lawK kn srcs) srcs pages) tl := by
        have en := names_is tolds
        refine ⟨by omega, Nat.le_trans (reqU_len sok2 lp) (by decide), fun x hx => List.mem_append_left _ hx, fun x y hy => ?_, fun x => ?_⟩
        · rw [en] at hy
          exact reqU_need x y hy
        · rw [en]
          exact Nat.le_trans (need_few sok2 x) (by decide)
      have en := names_is tolds
      have tl_ := tolds
      -- name by name
      refine ⟨fun σ' H' => ∃ y10 : Option V, σ' = [some (.ref a), some (.ref b), some (.int (0 + (i : Nat))), some (.ref D), some (.int (1 + r)), some (.ref c), some (.ref G), some (.ref A), some (.ref hd), some (.ref sp), y10, y11, y12, y13, y14] ∧ Same H12 H', ?_, ?_⟩
      · refine ⟨by show 9 ≤ sizeLine; decide, fun L nL => ⟨L, rfl, ⟨_, .inl (.inl upd_same)⟩, ?_⟩⟩
        have sL := same_new (o := .lst (names9.map V.str)) nL
        refine for_list (K := K) (a := L) (xs := names9.map V.str) (fun j σ H' => ∃ y10 : Option V, σ = [some (.ref a), some (.ref b), some (.int (0 + (i : Nat))), some (.ref D), some (.int (1 + r)), some (.ref c), some (.ref G), some (.ref A), some (.ref hd), some (.ref sp), y10, y11, y12, y13, y14] ∧ Same (upd H12 L (.lst (names9.map V.str))) H')
          ⟨_, rfl, Same.refl _⟩ (fun j σ H' _ ⟨_, _, e⟩ => .inl (.inl (e _ _ upd_same))) ?_ ?_
        · rintro j y σ H13 hy ⟨z10, rfl, s13⟩
          obtain ⟨n, rfl⟩ : ∃ n, y = V.str n := by
            rw [List.getElem?_map] at hy
            cases e : names9[j]? with
            | none => rw [e] at hy; cases hy
            | some x => rw [e] at hy; exact ⟨x, (Option.some.inj hy).symm⟩
          have bs13 := bs.same (sL.trans s13)
          refine ⟨fun σ' H' => σ' = [some (.ref a), some (.ref b), some (.int (0 + (i : Nat))), some (.ref D), some (.int (1 + r)), some (.ref c), some (.ref G), some (.ref A), some (.ref hd), some (.ref sp), some (.str n), y11, y12, y13, y14] ∧ Same H13 H', ?_, ?_⟩
          · obtain ⟨dxS, AS, TS, DS, rsS, hspS, _⟩ := bs13.snap
            refine ⟨.ref sp, rfl, sp, dxS, _, rfl, hspS, rfl, _, rfl, sp, pages, tl, lawK kn srcs, n, rfl, bs13.snap, fun v ov => ?_⟩
            refine ⟨_, rfl, _, rfl, _, rfl, G, D, kn, srcs, n, rfl, bs13.hR, .inl bs13.hD, fun H14 v2 s14 ov2 => ?_⟩
            have sh := Sz.shows (fine.sz n) (by decide) (by decide)
            refine ⟨_, _, _, _, rfl, ov_dp (ov.same s14), ov_dp ov2, sh, sh, ?_⟩
            rw [decide_eq_true rfl]
            exact ⟨true, rfl, iteF ⟨rfl, s14⟩⟩
          · rintro σ H14 ⟨rfl, s14⟩
            have bs14 := bs13.same s14
            obtain ⟨dxS, AS, TS, DS, rsS, hspS, _⟩ := bs14.snap
            refine ⟨.ref sp, rfl, sp, dxS, _, rfl, hspS, rfl, _, rfl, sp, pages, tl, lawK kn srcs, n, rfl, bs14.snap, fun H15 l s15 nl deps => ?_⟩
            have bs15 := bs14.same s15
            refine ⟨_, rfl, _, rfl, _, rfl, G, D, kn, srcs, n, rfl, bs15.hR, .inl bs15.hD, sok2, fun H16 l2 s16 nl2 deps2 => ?_⟩
            rw [tl_] at deps
            have sh := fine.szT n
            refine ⟨_, _, _, _, rfl, tdeps_dp (deps.same s16), tdeps_dp deps2, sh, sh, ?_⟩
            rw [decide_eq_true rfl]
            exact ⟨true, rfl, iteF ⟨_, rfl, s13.trans (s14.trans (s15.trans s16))⟩⟩
        · rintro σ H13 ⟨z10, rfl, s13⟩
          exact ⟨_, rfl, sL.trans s13⟩
      · rintro σ H13 ⟨z10, rfl, s13⟩
        have bs13 := bs.same s13
        -- what is needed
        refine ⟨_, rfl, _, rfl, _, rfl, G, D, A, kn, srcs, pages, rfl, bs13.hR, bs13.hD, sok2, bs13.hA, by omega, ndp, fun H14 N ns s14 nN hN riN memN => ?_⟩
        have bs14 := bs13.same s14
        have ndN := rise_nodup riN
        obtain ⟨lN, shN, spN⟩ := fine.szR ndN fun x hx => (memN x).mp hx
        refine ⟨fun σ' H' => σ' = [some (.ref a), some (.ref b), some (.int (0 + (i : Nat))), some (.ref D), some (.int (1 + r)), some (.ref c), some (.ref G), some (.ref A), some (.ref hd), some (.ref sp), z10, some (.ref N), y12, y13, y14] ∧ Same H14 H', ?_, ?_⟩
        · obtain ⟨dxS, AS, TS, DS, rsS, hspS, _⟩ := bs14.snap
          refine ⟨.ref sp, rfl, sp, dxS, _, rfl, hspS, rfl, sp, pages, _, tl, lawK kn srcs, rfl, bs14.snap, req, fun H15 l xs s15 nl hl ri mem => ?_⟩
          obtain rfl : xs = ns := rise_ext ri riN fun x => by rw [mem, memN, en]
          refine ⟨_, rfl, _, _, _, _, rfl, names_dp hl, names_dp (s15 _ _ hN), shN, shN, ?_⟩
          rw [decide_eq_true rfl]
          exact ⟨true, rfl, iteF ⟨rfl, s15⟩⟩
        · rintro σ H15 ⟨rfl, s15⟩
          have bs15 := bs14.same s15
          have hN15 := s15 _ _ hN
          -- what is due
          refine ⟨Nat.zero_le _, fun U0 nU => ?_⟩
          have sU := same_new (o := .lst []) nU
          have NU : N ≠ U0 := ne_of_none hN15 nU
          refine ⟨fun σ' H' => ∃ z10 z13 z14 : Option V, σ' = [some (.ref a), some (.ref b), some (.int (0 + (i : Nat))), some (.ref D), some (.int (1 + r)), some (.ref c), some (.ref G), some (.ref A), some (.ref hd), some (.ref sp), z10, some (.ref N), some (.ref U0), z13, z14] ∧ Same H15 H' ∧ H' U0 = some (.lst ((ns.filter (due (lawK kn srcs) srcs)).map V.str)), ?_, ?_⟩
          · refine ⟨.ref N, rfl, N, rfl, ⟨_, .inl (.inl (sU _ _ hN15))⟩, ?_⟩
            refine for_list (K := K) (a := N) (xs := ns.map V.str) (fun j σ H' => ∃ z10 z13 z14 : Option V, σ = [some (.ref a), some (.ref b), some (.int (0 + (i : Nat))), some (.ref D), some (.int (1 + r)), some (.ref c), some (.ref G), some (.ref A), some (.ref hd), some (.ref sp), z10, some (.ref N), some (.ref U0), z13, z14] ∧ Same H15 H' ∧ H' U0 = some (.lst (((ns.take j).filter (due (lawK kn srcs) srcs)).map V.str)))
              ⟨_, _, _, rfl, sU, upd_same⟩ (fun j σ H' _ ⟨_, _, _, _, e, _⟩ => .inl (.inl (e _ _ hN15))) ?_ ?_
            · rintro j y σ H16 hy ⟨u10, u13, u14, rfl, s16, hU⟩
              obtain ⟨n, hn, rfl⟩ : ∃ n, ns[j]? = some n ∧ y = V.str n := by
                rw [List.getElem?_map] at hy
                cases e : ns[j]? with
                | none => rw [e] at hy; cases hy
                | some x => rw [e] at hy; exact ⟨x, rfl, (Option.some.inj hy).symm⟩
              have tk : (ns.take (j + 1)).filter (due (lawK kn srcs) srcs) = (ns.take j).filter (due (lawK kn srcs) srcs) ++ [n].filter (due (lawK kn srcs) srcs) := by
                rw [List.take_add_one, hn, List.filter_append]
                rfl
              have bs16 := bs15.same s16
              have stay : ∀ {H' : Hp}, Same H16 H' → due (lawK kn srcs) srcs n = false → ∃ z10 z13 z14 : Option V, [some (.ref a), some (.ref b), some (.int (0 + (i : Nat))), some (.ref D), some (.int (1 + r)), some (.ref c), some (.ref G), some (.ref A), some (.ref hd), some (.ref sp), some (.str n), some (.ref N), some (.ref U0), u13, u14] = [some (.ref a), some (.ref b), some (.int (0 + (i : Nat))), some (.ref D), some (.int (1 + r)), some (.ref c), some (.ref G), some (.ref A), some (.ref hd), some (.ref sp), z10, some (.ref N), some (.ref U0), z13, z14] ∧
                  Same H15 H' ∧ H' U0 = some (.lst (((ns.take (j + 1)).filter (due (lawK kn srcs) srcs)).map V.str)) := fun {H'} s' e => by
                refine ⟨_, _, _, rfl, s16.trans s', ?_⟩
                rw [tk, List.filter_cons_of_neg (by rw [e]; decide), List.filter_nil, List.append_nil]
                exact s' _ _ hU
              refine ⟨_, rfl, _, rfl, _, rfl, G, D, kn, srcs, n, rfl, bs16.hR, .inl bs16.hD, fun H17 v s17 ov => ⟨rfl, _, rfl, ?_⟩⟩
              cases eK : lawK kn srcs n with
              | some rr =>
                rw [eK] at ov
                obtain ⟨t0, rfl, _⟩ := ov
                exact iteF (stay s17 (by unfold due; rw [eK]; rfl))
              | none =>
                rw [eK] at ov
                obtain rfl : v = .non := ov
                refine iteT ?_
                have bs17 := bs16.same s17
                refine ⟨_, rfl, _, rfl, _, rfl, G, D, kn, srcs, n, rfl, bs17.hR, .inl bs17.hD, sok2, fun H18 Fa s18 nF deps => ?_⟩
                have fewT := told_few (R := lawK kn srcs) sok2 n
                have names : ∀ d ∈ toldIn (lawK kn srcs) srcs n, nameB d.1 = true := fun d hd => (told_is hd).1
                have eD : due (lawK kn srcs) srcs n = allK (toldIn (lawK kn srcs) srcs n) := by unfold due; rw [eK]; rfl
                generalize toldIn (lawK kn srcs) srcs n = l at deps fewT names eD
                obtain ⟨ts, hF, pr⟩ := deps
                refine ⟨Fa, rfl, ⟨_, .inl (.inl hF)⟩, fun E0 nE => ?_⟩
                refine lc_unk hF pr nE (by omega) ?_ ?_
                · intro a x v H' R S sq yesR noS
                  refine ⟨a, _, rfl, sq, rfl, _, _, rfl, _, _, rfl, rfl, rfl, _, rfl, rfl, _, rfl, ite2 (fun e => ?_) (fun e => ?_)⟩
                  · exact ⟨_, rfl, yesR (of_decide_eq_true e)⟩
                  · exact noS fun h => e (decide_eq_true h)
                · refine ⟨Nat.zero_le _, fun E1 nE1 => ?_⟩
                  have dU : Dp K (upd (upd H18 E0 (.lst ((unk l).map V.str))) E1 (.lst [])) (.ref E0) (.list ((unk l).map PyData.str)) := .lst (.inl (.inl (same_new nE1 _ _ upd_same))) (strs_dp (unk l))
                  refine ⟨_, _, dU, .lst (.inl (.inl upd_same)) .nil, unk_shaped names, by decide, ?_⟩
                  rw [eqv_strs, unk_nil, ← eD]
                  have s19 := (same_new (o := .lst ((unk l).map V.str)) nE).trans (same_new (o := .lst []) nE1)
                  clear dU
                  generalize upd (upd H18 E0 (.lst ((unk l).map V.str))) E1 (.lst []) = H19 at s19 ⊢
                  have s1619 := s17.trans (s18.trans s19)
                  cases eW : due (lawK kn srcs) srcs n with
                  | false => exact ⟨_, rfl, iteF (stay s1619 eW)⟩
                  | true =>
                    refine ⟨_, rfl, iteT ?_⟩
                    have hU19 := s1619 _ _ hU
                    refine ⟨.ref U0, rfl, .inl ⟨rfl, _, .inl (.inl hU19)⟩, _, rfl, U0, _, _, rfl, rfl, hU19, ?_, ?_⟩
                    · rw [List.length_map]
                      have h1 := List.length_filter_le (due (lawK kn srcs) srcs) (ns.take j)
                      have h2 := List.length_take_le' j ns
                      exact small5 (by omega)
                    · refine ⟨_, _, _, rfl, fun q' o' e => ?_, ?_⟩
                      · rw [upd_ne (ne_of_none e nU)]
                        exact s1619 _ _ (s16 _ _ e)
                      · rw [upd_same, tk, List.filter_cons_of_pos eW, List.filter_nil, List.map_append]
                        rfl
            · rintro σ H16 ⟨u10, u13, u14, rfl, s16, hU⟩
              rw [List.length_map, List.take_length] at hU
              exact ⟨_, _, _, rfl, s16, hU⟩
          · rintro σ H16 ⟨u10, u13, u14, rfl, s16, hU⟩
            have bs16 := bs15.same s16
            have ndD : (ns.filter (due (lawK kn srcs) srcs)).Nodup := ndN.sublist List.filter_sublist
            obtain ⟨lD, shD, spD⟩ := fine.szR ndD fun x hx => (memN x).mp (List.mem_filter.mp hx).1
            have feq : ∀ xs : List Str, xs.filter (fun n => (lawK kn srcs n).isNone && allK (toldOf tl n)) = xs.filter (due (lawK kn srcs) srcs) := fun xs => List.filter_congr fun x _ => by
              unfold due
              rw [tl_]
            refine ⟨fun σ' H' => σ' = [some (.ref a), some (.ref b), some (.int (0 + (i : Nat))), some (.ref D), some (.int (1 + r)), some (.ref c), some (.ref G), some (.ref A), some (.ref hd), some (.ref sp), u10, some (.ref N), some (.ref U0), u13, u14] ∧ Same H16 H', ?_, ?_⟩
            · obtain ⟨dxS, AS, TS, DS, rsS, hspS, _⟩ := bs16.snap
              refine ⟨.ref sp, rfl, sp, dxS, _, rfl, hspS, rfl, sp, pages, _, tl, lawK kn srcs, rfl, bs16.snap, req, fun H17 l xs s17 nl ri mem hl => ?_⟩
              obtain rfl : xs = ns := rise_ext ri riN fun x => by rw [mem, memN, en]
              rw [feq] at hl
              refine ⟨_, rfl, _, _, _, _, rfl, names_dp hl, names_dp (s17 _ _ hU), shD, shD, ?_⟩
              rw [decide_eq_true rfl]
              exact ⟨true, rfl, iteF ⟨rfl, s17⟩⟩
            · rintro σ H17 ⟨rfl, s17⟩
              have bs17 := bs16.same s17
              have hU17 := s17 _ _ hU
              have hN17 := s17 _ _ (s16 _ _ hN15)
              have unkF : ∀ xs : List Str, decide (xs.filter (fun n => (lawK kn srcs n).isNone) = []) = xs.all fun n => (lawK kn srcs n).isSome := fun xs => by
                induction xs with
                | nil => rfl
                | cons x r ih =>
                  rw [List.filter_cons, List.all_cons]
                  cases lawK kn srcs x with
                  | none => rfl
                  | some v =>
                    simp only [Option.isNone_some, Option.isSome_some, Bool.true_and]
                    exact ih
              have ndU : (ns.filter fun n => (lawK kn srcs n).isNone).Nodup := ndN.sublist List.filter_sublist
              obtain ⟨lU, shU, spU⟩ := fine.szR ndU fun x hx => (memN x).mp (List.mem_filter.mp hx).1
              refine ⟨fun σ' H' => σ' = [some (.ref a), some (.ref b), some (.int (0 + (i : Nat))), some (.ref D), some (.int (1 + r)), some (.ref c), some (.ref G), some (.ref A), some (.ref hd), some (.ref sp), u10, some (.ref N), some (.ref U0), u13, u14] ∧ Same H17 H', ?_, ?_⟩
              · obtain ⟨dxS, AS, TS, DS, rsS, hspS, _⟩ := bs17.snap
                refine ⟨.ref sp, rfl, sp, dxS, _, rfl, hspS, rfl, sp, pages, _, tl, lawK kn srcs, rfl, bs17.snap, req, fun H18 xs s18 ri mem => ?_⟩
                obtain rfl : xs = ns := rise_ext ri riN fun x => by rw [mem, memN, en]
                have hN18 := s18 _ _ hN17
                have bs18 := bs17.same s18
                refine ⟨.ref N, rfl, N, rfl, ⟨_, .inl (.inl hN18)⟩, fun E0 nE => ?_⟩
                refine lc_list (K := K) (a := N) (xs := xs.map V.str) (fun j H' => Same H18 H' ∧ H' E0 = some (.lst (((xs.take j).filter fun n => (lawK kn srcs n).isNone).map V.str))) ⟨same_new nE, upd_same⟩ (fun j H' _ h => .inl (.inl (h.1 _ _ hN18))) ?_ ?_
                · rintro j y H19 hy ⟨s19, hE⟩
                  obtain ⟨n, hn, rfl⟩ : ∃ n, xs[j]? = some n ∧ y = V.str n := by
                    rw [List.getElem?_map] at hy
                    cases e : xs[j]? with
                    | none => rw [e] at hy; cases hy
                    | some x => rw [e] at hy; exact ⟨x, rfl, (Option.some.inj hy).symm⟩
                  have tk : (xs.take (j + 1)).filter (fun n => (lawK kn srcs n).isNone) = (xs.take j).filter (fun n => (lawK kn srcs n).isNone) ++ [n].filter (fun n => (lawK kn srcs n).isNone) := by
                    rw [List.take_add_one, hn, List.filter_append]
                    rfl
                  have bs19 := bs18.same s19
                  refine ⟨rfl, _, rfl, _, rfl, _, rfl, G, D, kn, srcs, n, rfl, bs19.hR, .inl bs19.hD, fun H20 v s20 ov => ⟨rfl, _, rfl, ?_⟩⟩
                  cases eK : lawK kn srcs n with
                  | some rr =>
                    rw [eK] at ov
                    obtain ⟨t0, rfl, _⟩ := ov
                    refine iteF ⟨s19.trans s20, ?_⟩
                    rw [tk, List.filter_cons_of_neg (by rw [eK]; exact Bool.false_ne_true), List.filter_nil, List.append_nil]
                    exact s20 _ _ hE
                  | none =>
                    rw [eK] at ov
                    obtain rfl : v = .non := ov
                    refine iteT ⟨_, rfl, _, s20 _ _ hE, ?_, fun q' o' e => ?_, ?_⟩
                    · rw [List.length_map]
                      have h1 := List.length_filter_le (fun n => (lawK kn srcs n).isNone) (xs.take j)
                      have h2 := List.length_take_le' j xs
                      exact small5 (by omega)
                    · rw [upd_ne (ne_of_none e nE)]
                      exact s20 _ _ (s19 _ _ e)
                    · rw [upd_same, tk, List.filter_cons_of_pos (by rw [eK]; rfl), List.filter_nil, List.map_append]
                      rfl
                · rintro H19 ⟨s19, hE⟩
                  rw [List.length_map, List.take_length] at hE
                  refine ⟨Nat.zero_le _, fun E1 nE1 => ?_⟩
                  have dU := names_dp (K := K) (same_new (o := .lst []) nE1 _ _ hE)
                  refine ⟨_, _, dU, .lst (.inl (.inl upd_same)) .nil, spU, by decide, ?_⟩
                  rw [eqv_strs, unkF]
                  refine ⟨_, _, _, _, rfl, .bl _, .bl _, ?_, ?_, ?_⟩
                  · exact Sz.shows (Sz.bool _) (by decide) (by decide)
                  · exact Sz.shows (Sz.bool _) (by decide) (by decide)
                  · rw [decide_eq_true rfl]
                    exact ⟨true, rfl, iteF ⟨rfl, s18.trans (s19.trans (same_new nE1))⟩⟩
              · rintro σ H18 ⟨rfl, s18⟩
                have bs18 := bs17.same s18
                have hU18 := s18 _ _ hU17
                obtain ⟨dxS, AS, TS, DS, rsS, hspS, _⟩ := bs18.snap
                have sAll := s13.trans (s14.trans (s15.trans (s16.trans (s17.trans s18))))
                refine ⟨.ref sp, rfl, sp, dxS, _, rfl, hspS, rfl, sp, pages, _, tl, lawK kn srcs, rfl, bs18.snap, req, fun H19 xs s19 ri mem => ⟨_, rfl, ?_⟩⟩
                obtain rfl : xs = ns := rise_ext ri riN fun x => by rw [mem, memN, en]
                cases eR : xs.all fun n => (lawK kn srcs n).isSome with
                | true => exact iteF (iteF ⟨_, _, _, _, _, _, _, _, _, _, _, _, _, rfl, (box12.same sAll).same s19⟩)
                | false =>
                  refine iteT ⟨.ref U0, rfl, Nat.zero_le _, fun E2 nE2 => ?_⟩
                  have dD := names_dp (K := K) (same_new (o := .lst []) nE2 _ _ (s19 _ _ hU18))
                  refine ⟨_, _, dD, .lst (.inl (.inl upd_same)) .nil, spD, by decide, _, rfl, ?_⟩
                  rw [eqv_strs]
                  obtain ⟨x, hx, hn⟩ := List.all_eq_false.mp eR
                  have hn : lawK kn srcs x = none := by
                    cases h : lawK kn srcs x with
                    | none => rfl
                    | some v => rw [h] at hn; exact absurd rfl hn
                  obtain ⟨y, hy, hyn, hya⟩ := some_due memN _ x (Nat.le_refl _) hx hn fun n h => lawK_no h
                  have hyd : y ∈ xs.filter (due (lawK kn srcs) srcs) := List.mem_filter.mpr ⟨hy, by unfold due; rw [hyn, hya]; rfl⟩
                  have ne : ¬ xs.filter (due (lawK kn srcs) srcs) = [] := fun e => by rw [e] at hyd; cases hyd
                  rw [decide_eq_false ne]
                  exact iteF ⟨_, _, _, _, _, _, _, _, _, _, _, _, _, rfl, ((box12.same sAll).same s19).same (same_new nE2)⟩
    · rintro σ H3 ⟨y2, y3, y4, y5, y6, y7, y8, y9, y10, y11, y12, y13, y14, rfl, hb⟩
      exact q H3
end
end K07

namespace K07
open PySem PySem.Spec PyProof.Rows L2 Pg
/-! what the top has written -/
theorem all_mk {l : PySem.W.OpenLaw} {w : World} {K : PySem.W.Frag} {h : Heap} {mg : Str → Option Value} {fa f0 f1 f2 f3 f4 f5 f6 f7 f8 f9 f10 f11 f12 f13 f14 f15 f16 f17 f18 f19 f20 f21 f22 f23 f24 f25 f26 f27 f28 f29 f30 f31 f32 f33 f34 f35 f36 f37 f38 CCache CSnapshot : Addr} (X : K.In h) (G : h.Ns mainGlobals mg) (hfa : mg "law" = some (.ref fa))
    {od0 an0 od1 an1 od2 an2 od3 an3 od4 an4 od5 an5 od6 an6 od7 an7 od8 an8 od9 an9 od10 an10 od11 an11 od12 an12 od13 an13 od14 an14 od15 an15 od16 an16 od17 an17 od18 an18 od19 an19 od20 an20 od21 an21 od22 an22 od23 an23 od24 an24 od25 an25 od26 an26 od27 an27 od28 an28 od29 an29 od30 an30 od31 an31 od32 an32 od33 an33 od34 an34 od35 an35 od36 an36 od37 an37 od38 an38 : Option Addr} {sl0 sl1 sl2 sl3 sl4 sl5 sl6 sl7 sl8 sl9 sl10 sl11 sl12 sl13 sl14 sl15 sl16 sl17 sl18 sl19 sl20 sl21 sl22 sl23 sl24 sl25 sl26 sl27 sl28 sl29 sl30 sl31 sl32 sl33 sl34 sl35 sl36 sl37 sl38 : Array (Option Value)} {oc0 kV0 dc0 pm0 cd0 ct0 oc1 kV1 dc1 pm1 cd1 ct1 oc2 kV2 dc2 pm2 cd2 ct2 oc3 kV3 dc3 pm3 cd3 ct3 oc4 kV4 dc4 pm4 cd4 ct4 oc5 kV5 dc5 pm5 cd5 ct5 oc6 kV6 dc6 pm6 cd6 ct6 oc7 kV7 dc7 pm7 cd7 ct7 oc8 kV8 dc8 pm8 cd8 ct8 oc9 kV9 dc9 pm9 cd9 ct9 oc10 kV10 dc10 pm10 cd10 ct10 oc11 kV11 dc11 pm11 cd11 ct11 oc12 kV12 dc12 pm12 cd12 ct12 oc13 kV13 dc13 pm13 cd13 ct13 oc14 kV14 dc14 pm14 cd14 ct14 oc15 kV15 dc15 pm15 cd15 ct15 oc16 kV16 dc16 pm16 cd16 ct16 oc17 kV17 dc17 pm17 cd17 ct17 oc18 kV18 dc18 pm18 cd18 ct18 oc19 kV19 dc19 pm19 cd19 ct19 oc20 kV20 dc20 pm20 cd20 ct20 oc21 kV21 dc21 pm21 cd21 ct21 oc22 kV22 dc22 pm22 cd22 ct22 oc23 kV23 dc23 pm23 cd23 ct23 oc24 kV24 dc24 pm24 cd24 ct24 oc25 kV25 dc25 pm25 cd25 ct25 oc26 kV26 dc26 pm26 cd26 ct26 oc27 kV27 dc27 pm27 cd27 ct27 oc28 kV28 dc28 pm28 cd28 ct28 oc29 kV29 dc29 pm29 cd29 ct29 oc30 kV30 dc30 pm30 cd30 ct30 oc31 kV31 dc31 pm31 cd31 ct31 oc32 kV32 dc32 pm32 cd32 ct32 oc33 kV33 dc33 pm33 cd33 ct33 oc34 kV34 dc34 pm34 cd34 ct34 oc35 kV35 dc35 pm35 cd35 ct35 oc36 kV36 dc36 pm36 cd36 ct36 oc37 kV37 dc37 pm37 cd37 ct37 oc38 kV38 dc38 pm38 cd38 ct38 : Value} {t0 t1 : Tok}
    {es : Array DictEntry} {en : Nat} {sg p0 p1 p2 : Addr} {i0 i1 i2 : Array Value} {m0 m1 m2 : Nat} {dd0 dd1 dd2 : Option Addr} {ls0 ls1 ls2 : Array (Option Value)}
    {nA nB : Addr} {nI nJ : Array Value} {nM nN : Nat} {nD nE : Option Addr} {nL nK : Array (Option Value)}
    (a0 : PySem.W.nsIn K mainGlobals "_law_cell" = some (some (.ref f0))) (l0 : K.lookup f0 = some ⟨oc0, od0, .func (PySem.W.fnOf "_law_cell" "_law_cell" (defArgs s_law_cell) (defBody s_law_cell) (defScope s_law_cell) .none kV0 dc0 pm0 an0 cd0 ct0), sl0⟩)
      (c0 : PySem.W.codeIn K cd0 "_law_cell" = true) (k0 : PySem.W.keepIn K (.ref f0) = true)
    (a1 : PySem.W.nsIn K mainGlobals "_law_digits" = some (some (.ref f1))) (l1 : K.lookup f1 = some ⟨oc1, od1, .func (PySem.W.fnOf "_law_digits" "_law_digits" (defArgs s_law_digits) (defBody s_law_digits) (defScope s_law_digits) .none kV1 dc1 pm1 an1 cd1 ct1), sl1⟩)
      (c1 : PySem.W.codeIn K cd1 "_law_digits" = true) (k1 : PySem.W.keepIn K (.ref f1) = true)
    (a2 : PySem.W.nsIn K mainGlobals "_law_is_name" = some (some (.ref f2))) (l2 : K.lookup f2 = some ⟨oc2, od2, .func (PySem.W.fnOf "_law_is_name" "_law_is_name" (defArgs s_law_is_name) (defBody s_law_is_name) (defScope s_law_is_name) .none kV2 dc2 pm2 an2 cd2 ct2), sl2⟩)
      (c2 : PySem.W.codeIn K cd2 "_law_is_name" = true) (k2 : PySem.W.keepIn K (.ref f2) = true)
    (a3 : PySem.W.nsIn K mainGlobals "_law_draw" = some (some (.ref f3))) (l3 : K.lookup f3 = some ⟨oc3, od3, .func (PySem.W.fnOf "_law_draw" "_law_draw" (defArgs s_law_draw) (defBody s_law_draw) (defScope s_law_draw) .none kV3 dc3 pm3 an3 cd3 ct3), sl3⟩)
      (c3 : PySem.W.codeIn K cd3 "_law_draw" = true) (k3 : PySem.W.keepIn K (.ref f3) = true)
    (a4 : PySem.W.nsIn K mainGlobals "_law_name" = some (some (.ref f4))) (l4 : K.lookup f4 = some ⟨oc4, od4, .func (PySem.W.fnOf "_law_name" "_law_name" (defArgs s_law_name) (defBody s_law_name) (defScope s_law_name) .none kV4 dc4 pm4 an4 cd4 ct4), sl4⟩)
      (c4 : PySem.W.codeIn K cd4 "_law_name" = true) (k4 : PySem.W.keepIn K (.ref f4) = true)
    (a5 : PySem.W.nsIn K mainGlobals "_law_text" = some (some (.ref f5))) (l5 : K.lookup f5 = some ⟨oc5, od5, .func (PySem.W.fnOf "_law_text" "_law_text" (defArgs s_law_text) (defBody s_law_text) (defScope s_law_text) .none kV5 dc5 pm5 an5 cd5 ct5), sl5⟩)
      (c5 : PySem.W.codeIn K cd5 "_law_text" = true) (k5 : PySem.W.keepIn K (.ref f5) = true)
    (a6 : PySem.W.nsIn K mainGlobals "_law_alike" = some (some (.ref f6))) (l6 : K.lookup f6 = some ⟨oc6, od6, .func (PySem.W.fnOf "_law_alike" "_law_alike" (defArgs s_law_alike) (defBody s_law_alike) (defScope s_law_alike) .none kV6 dc6 pm6 an6 cd6 ct6), sl6⟩)
      (c6 : PySem.W.codeIn K cd6 "_law_alike" = true) (k6 : PySem.W.keepIn K (.ref f6) = true)
    (a7 : PySem.W.nsIn K mainGlobals "_law_bracket" = some (some (.ref f7))) (l7 : K.lookup f7 = some ⟨oc7, od7, .func (PySem.W.fnOf "_law_bracket" "_law_bracket" (defArgs s_law_bracket) (defBody s_law_bracket) (defScope s_law_bracket) .none kV7 dc7 pm7 an7 cd7 ct7), sl7⟩)
      (c7 : PySem.W.codeIn K cd7 "_law_bracket" = true) (k7 : PySem.W.keepIn K (.ref f7) = true)
    (a8 : PySem.W.nsIn K mainGlobals "_law_split" = some (some (.ref f8))) (l8 : K.lookup f8 = some ⟨oc8, od8, .func (PySem.W.fnOf "_law_split" "_law_split" (defArgs s_law_split) (defBody s_law_split) (defScope s_law_split) .none kV8 dc8 pm8 an8 cd8 ct8), sl8⟩)
      (c8 : PySem.W.codeIn K cd8 "_law_split" = true) (k8 : PySem.W.keepIn K (.ref f8) = true)
    (a9 : PySem.W.nsIn K mainGlobals "is_name" = some (some (.ref f9))) (l9 : K.lookup f9 = some ⟨oc9, od9, .func (PySem.W.fnOf "is_name" "is_name" (defArgs s_is_name) (defBody s_is_name) (defScope s_is_name) .none kV9 dc9 pm9 an9 cd9 ct9), sl9⟩)
      (c9 : PySem.W.codeIn K cd9 "is_name" = true) (k9 : PySem.W.keepIn K (.ref f9) = true)
    (a10 : PySem.W.nsIn K mainGlobals "is_after" = some (some (.ref f10))) (l10 : K.lookup f10 = some ⟨oc10, od10, .func (PySem.W.fnOf "is_after" "is_after" (defArgs s_is_after) (defBody s_is_after) (defScope s_is_after) .none kV10 dc10 pm10 an10 cd10 ct10), sl10⟩)
      (c10 : PySem.W.codeIn K cd10 "is_after" = true) (k10 : PySem.W.keepIn K (.ref f10) = true)
    (a11 : PySem.W.nsIn K mainGlobals "_plain" = some (some (.ref f11))) (l11 : K.lookup f11 = some ⟨oc11, od11, .func (PySem.W.fnOf "_plain" "_plain" (defArgs s_plain) (defBody s_plain) (defScope s_plain) .none kV11 dc11 pm11 an11 cd11 ct11), sl11⟩)
      (c11 : PySem.W.codeIn K cd11 "_plain" = true) (k11 : PySem.W.keepIn K (.ref f11) = true)
    (a12 : PySem.W.nsIn K mainGlobals "_text_of" = some (some (.ref f12))) (l12 : K.lookup f12 = some ⟨oc12, od12, .func (PySem.W.fnOf "_text_of" "_text_of" (defArgs s_text_of) (defBody s_text_of) (defScope s_text_of) .none kV12 dc12 pm12 an12 cd12 ct12), sl12⟩)
      (c12 : PySem.W.codeIn K cd12 "_text_of" = true) (k12 : PySem.W.keepIn K (.ref f12) = true)
    (a13 : PySem.W.nsIn K mainGlobals "_segment_at" = some (some (.ref f13))) (l13 : K.lookup f13 = some ⟨oc13, od13, .func (PySem.W.fnOf "_segment_at" "_segment_at" (defArgs s_segment_at) (defBody s_segment_at) (defScope s_segment_at) .none kV13 dc13 pm13 an13 cd13 ct13), sl13⟩)
      (c13 : PySem.W.codeIn K cd13 "_segment_at" = true) (k13 : PySem.W.keepIn K (.ref f13) = true)
    (a14 : PySem.W.nsIn K mainGlobals "split" = some (some (.ref f14))) (l14 : K.lookup f14 = some ⟨oc14, od14, .func (PySem.W.fnOf "split" "split" (defArgs s_split) (defBody s_split) (defScope s_split) .none kV14 dc14 pm14 an14 cd14 ct14), sl14⟩)
      (c14 : PySem.W.codeIn K cd14 "split" = true) (k14 : PySem.W.keepIn K (.ref f14) = true)
    (a15 : PySem.W.nsIn K mainGlobals "_leads_on" = some (some (.ref f15))) (l15 : K.lookup f15 = some ⟨oc15, od15, .func (PySem.W.fnOf "_leads_on" "_leads_on" (defArgs s_leads_on) (defBody s_leads_on) (defScope s_leads_on) .none kV15 dc15 pm15 an15 cd15 ct15), sl15⟩)
      (c15 : PySem.W.codeIn K cd15 "_leads_on" = true) (k15 : PySem.W.keepIn K (.ref f15) = true)
    (a16 : PySem.W.nsIn K mainGlobals "told_dependencies" = some (some (.ref f16))) (l16 : K.lookup f16 = some ⟨oc16, od16, .func (PySem.W.fnOf "told_dependencies" "told_dependencies" (defArgs s_told_dependencies) (defBody s_told_dependencies) (defScope s_told_dependencies) .none kV16 dc16 pm16 an16 cd16 ct16), sl16⟩)
      (c16 : PySem.W.codeIn K cd16 "told_dependencies" = true) (k16 : PySem.W.keepIn K (.ref f16) = true)
    (a17 : PySem.W.nsIn K mainGlobals "all_required" = some (some (.ref f17))) (l17 : K.lookup f17 = some ⟨oc17, od17, .func (PySem.W.fnOf "all_required" "all_required" (defArgs s_all_required) (defBody s_all_required) (defScope s_all_required) .none kV17 dc17 pm17 an17 cd17 ct17), sl17⟩)
      (c17 : PySem.W.codeIn K cd17 "all_required" = true) (k17 : PySem.W.keepIn K (.ref f17) = true)
    (a18 : PySem.W.nsIn K mainGlobals "_all_known" = some (some (.ref f18))) (l18 : K.lookup f18 = some ⟨oc18, od18, .func (PySem.W.fnOf "_all_known" "_all_known" (defArgs s_all_known) (defBody s_all_known) (defScope s_all_known) .none kV18 dc18 pm18 an18 cd18 ct18), sl18⟩)
      (c18 : PySem.W.codeIn K cd18 "_all_known" = true) (k18 : PySem.W.keepIn K (.ref f18) = true)
    (a19 : PySem.W.findIn K (.ref CCache) "__init__" = some (some (.ref f19))) (i19 : PySem.W.isFn K (.ref f19) = true) (l19 : K.lookup f19 = some ⟨oc19, od19, .func (PySem.W.fnOf "__init__" "Cache.__init__" (defArgs s_Cache_init) (defBody s_Cache_init) (defScope s_Cache_init) .none kV19 dc19 pm19 an19 cd19 ct19), sl19⟩)
      (c19 : PySem.W.codeIn K cd19 "Cache.__init__" = true) (k19 : PySem.W.keepIn K (.ref f19) = true)
    (a20 : PySem.W.findIn K (.ref CCache) "renderings" = some (some (.ref f20))) (i20 : PySem.W.isFn K (.ref f20) = true) (l20 : K.lookup f20 = some ⟨oc20, od20, .func (PySem.W.fnOf "renderings" "Cache.renderings" (defArgs s_Cache_renderings) (defBody s_Cache_renderings) (defScope s_Cache_renderings) .none kV20 dc20 pm20 an20 cd20 ct20), sl20⟩)
      (c20 : PySem.W.codeIn K cd20 "Cache.renderings" = true) (k20 : PySem.W.keepIn K (.ref f20) = true)
    (a21 : PySem.W.findIn K (.ref CCache) "add" = some (some (.ref f21))) (i21 : PySem.W.isFn K (.ref f21) = true) (l21 : K.lookup f21 = some ⟨oc21, od21, .func (PySem.W.fnOf "add" "Cache.add" (defArgs s_Cache_add) (defBody s_Cache_add) (defScope s_Cache_add) .none kV21 dc21 pm21 an21 cd21 ct21), sl21⟩)
      (c21 : PySem.W.codeIn K cd21 "Cache.add" = true) (k21 : PySem.W.keepIn K (.ref f21) = true)
    (a22 : PySem.W.findIn K (.ref CCache) "find" = some (some (.ref f22))) (i22 : PySem.W.isFn K (.ref f22) = true) (l22 : K.lookup f22 = some ⟨oc22, od22, .func (PySem.W.fnOf "find" "Cache.find" (defArgs s_Cache_find) (defBody s_Cache_find) (defScope s_Cache_find) .none kV22 dc22 pm22 an22 cd22 ct22), sl22⟩)
      (c22 : PySem.W.codeIn K cd22 "Cache.find" = true) (k22 : PySem.W.keepIn K (.ref f22) = true)
    (a23 : PySem.W.findIn K (.ref CSnapshot) "__init__" = some (some (.ref f23))) (i23 : PySem.W.isFn K (.ref f23) = true) (l23 : K.lookup f23 = some ⟨oc23, od23, .func (PySem.W.fnOf "__init__" "Snapshot.__init__" (defArgs s_Snapshot_init) (defBody s_Snapshot_init) (defScope s_Snapshot_init) .none kV23 dc23 pm23 an23 cd23 ct23), sl23⟩)
      (c23 : PySem.W.codeIn K cd23 "Snapshot.__init__" = true) (k23 : PySem.W.keepIn K (.ref f23) = true)
    (a24 : PySem.W.findIn K (.ref CSnapshot) "known" = some (some (.ref f24))) (i24 : PySem.W.isFn K (.ref f24) = true) (l24 : K.lookup f24 = some ⟨oc24, od24, .func (PySem.W.fnOf "known" "Snapshot.known" (defArgs s_Snapshot_known) (defBody s_Snapshot_known) (defScope s_Snapshot_known) .none kV24 dc24 pm24 an24 cd24 ct24), sl24⟩)
      (c24 : PySem.W.codeIn K cd24 "Snapshot.known" = true) (k24 : PySem.W.keepIn K (.ref f24) = true)
    (a25 : PySem.W.findIn K (.ref CSnapshot) "told" = some (some (.ref f25))) (i25 : PySem.W.isFn K (.ref f25) = true) (l25 : K.lookup f25 = some ⟨oc25, od25, .func (PySem.W.fnOf "told" "Snapshot.told" (defArgs s_Snapshot_told) (defBody s_Snapshot_told) (defScope s_Snapshot_told) .none kV25 dc25 pm25 an25 cd25 ct25), sl25⟩)
      (c25 : PySem.W.codeIn K cd25 "Snapshot.told" = true) (k25 : PySem.W.keepIn K (.ref f25) = true)
    (a26 : PySem.W.findIn K (.ref CSnapshot) "required" = some (some (.ref f26))) (i26 : PySem.W.isFn K (.ref f26) = true) (l26 : K.lookup f26 = some ⟨oc26, od26, .func (PySem.W.fnOf "required" "Snapshot.required" (defArgs s_Snapshot_required) (defBody s_Snapshot_required) (defScope s_Snapshot_required) .none kV26 dc26 pm26 an26 cd26 ct26), sl26⟩)
      (c26 : PySem.W.codeIn K cd26 "Snapshot.required" = true) (k26 : PySem.W.keepIn K (.ref f26) = true)
    (a27 : PySem.W.findIn K (.ref CSnapshot) "renderable" = some (some (.ref f27))) (i27 : PySem.W.isFn K (.ref f27) = true) (l27 : K.lookup f27 = some ⟨oc27, od27, .func (PySem.W.fnOf "renderable" "Snapshot.renderable" (defArgs s_Snapshot_renderable) (defBody s_Snapshot_renderable) (defScope s_Snapshot_renderable) .none kV27 dc27 pm27 an27 cd27 ct27), sl27⟩)
      (c27 : PySem.W.codeIn K cd27 "Snapshot.renderable" = true) (k27 : PySem.W.keepIn K (.ref f27) = true)
    (a28 : PySem.W.findIn K (.ref CSnapshot) "is_ready" = some (some (.ref f28))) (i28 : PySem.W.isFn K (.ref f28) = true) (l28 : K.lookup f28 = some ⟨oc28, od28, .func (PySem.W.fnOf "is_ready" "Snapshot.is_ready" (defArgs s_Snapshot_is_ready) (defBody s_Snapshot_is_ready) (defScope s_Snapshot_is_ready) .none kV28 dc28 pm28 an28 cd28 ct28), sl28⟩)
      (c28 : PySem.W.codeIn K cd28 "Snapshot.is_ready" = true) (k28 : PySem.W.keepIn K (.ref f28) = true)
    (a29 : PySem.W.nsIn K mainGlobals "_law_pages" = some (some (.ref f29))) (l29 : K.lookup f29 = some ⟨oc29, od29, .func (PySem.W.fnOf "_law_pages" "_law_pages" (defArgs s_law_pages) (defBody s_law_pages) (defScope s_law_pages) .none kV29 dc29 pm29 an29 cd29 ct29), sl29⟩)
      (c29 : PySem.W.codeIn K cd29 "_law_pages" = true) (k29 : PySem.W.keepIn K (.ref f29) = true)
    (a30 : PySem.W.nsIn K mainGlobals "_law_sources" = some (some (.ref f30))) (l30 : K.lookup f30 = some ⟨oc30, od30, .func (PySem.W.fnOf "_law_sources" "_law_sources" (defArgs s_law_sources) (defBody s_law_sources) (defScope s_law_sources) .none kV30 dc30 pm30 an30 cd30 ct30), sl30⟩)
      (c30 : PySem.W.codeIn K cd30 "_law_sources" = true) (k30 : PySem.W.keepIn K (.ref f30) = true)
    (a31 : PySem.W.nsIn K mainGlobals "_law_joined" = some (some (.ref f31))) (l31 : K.lookup f31 = some ⟨oc31, od31, .func (PySem.W.fnOf "_law_joined" "_law_joined" (defArgs s_law_joined) (defBody s_law_joined) (defScope s_law_joined) .none kV31 dc31 pm31 an31 cd31 ct31), sl31⟩)
      (c31 : PySem.W.codeIn K cd31 "_law_joined" = true) (k31 : PySem.W.keepIn K (.ref f31) = true)
    (a32 : PySem.W.nsIn K mainGlobals "_law_rendered" = some (some (.ref f32))) (l32 : K.lookup f32 = some ⟨oc32, od32, .func (PySem.W.fnOf "_law_rendered" "_law_rendered" (defArgs s_law_rendered) (defBody s_law_rendered) (defScope s_law_rendered) .none kV32 dc32 pm32 an32 cd32 ct32), sl32⟩)
      (c32 : PySem.W.codeIn K cd32 "_law_rendered" = true) (k32 : PySem.W.keepIn K (.ref f32) = true)
    (a33 : PySem.W.nsIn K mainGlobals "_law_known" = some (some (.ref f33))) (l33 : K.lookup f33 = some ⟨oc33, od33, .func (PySem.W.fnOf "_law_known" "_law_known" (defArgs s_law_known) (defBody s_law_known) (defScope s_law_known) .none kV33 dc33 pm33 an33 cd33 ct33), sl33⟩)
      (c33 : PySem.W.codeIn K cd33 "_law_known" = true) (k33 : PySem.W.keepIn K (.ref f33) = true)
    (a34 : PySem.W.nsIn K mainGlobals "_law_told" = some (some (.ref f34))) (l34 : K.lookup f34 = some ⟨oc34, od34, .func (PySem.W.fnOf "_law_told" "_law_told" (defArgs s_law_told) (defBody s_law_told) (defScope s_law_told) .none kV34 dc34 pm34 an34 cd34 ct34), sl34⟩)
      (c34 : PySem.W.codeIn K cd34 "_law_told" = true) (k34 : PySem.W.keepIn K (.ref f34) = true)
    (a35 : PySem.W.nsIn K mainGlobals "_law_filled" = some (some (.ref f35))) (l35 : K.lookup f35 = some ⟨oc35, od35, .func (PySem.W.fnOf "_law_filled" "_law_filled" (defArgs s_law_filled) (defBody s_law_filled) (defScope s_law_filled) .none kV35 dc35 pm35 an35 cd35 ct35), sl35⟩)
      (c35 : PySem.W.codeIn K cd35 "_law_filled" = true) (k35 : PySem.W.keepIn K (.ref f35) = true)
    (a36 : PySem.W.nsIn K mainGlobals "_law_later" = some (some (.ref f36))) (l36 : K.lookup f36 = some ⟨oc36, od36, .func (PySem.W.fnOf "_law_later" "_law_later" (defArgs s_law_later) (defBody s_law_later) (defScope s_law_later) .none kV36 dc36 pm36 an36 cd36 ct36), sl36⟩)
      (c36 : PySem.W.codeIn K cd36 "_law_later" = true) (k36 : PySem.W.keepIn K (.ref f36) = true)
    (a37 : PySem.W.nsIn K mainGlobals "_law_needed" = some (some (.ref f37))) (l37 : K.lookup f37 = some ⟨oc37, od37, .func (PySem.W.fnOf "_law_needed" "_law_needed" (defArgs s_law_needed) (defBody s_law_needed) (defScope s_law_needed) .none kV37 dc37 pm37 an37 cd37 ct37), sl37⟩)
      (c37 : PySem.W.codeIn K cd37 "_law_needed" = true) (k37 : PySem.W.keepIn K (.ref f37) = true)
    (a38 : PySem.W.nsIn K mainGlobals "law" = some (some (.ref f38))) (l38 : K.lookup f38 = some ⟨oc38, od38, .func (PySem.W.fnOf "law" "law" (defArgs s_law) (defBody s_law) (defScope s_law) .none kV38 dc38 pm38 an38 cd38 ct38), sl38⟩)
      (c38 : PySem.W.codeIn K cd38 "law" = true) (k38 : PySem.W.keepIn K (.ref f38) = true)
    (qCache0 : PySem.W.nsIn K mainGlobals "Cache" = some (some (.ref CCache))) (qCache1 : PySem.W.plainGet K CCache Str.empty = true) (qCache2 : PySem.W.hasDictIn K CCache = true) (qCache3 : PySem.W.plainOver K CCache = true) (qCache4 : PySem.W.findIn K (.ref CCache) "__setattr__" = some (some (.builtin "object.__setattr__"))) (qCache5 : PySem.W.makesIn K CCache = true) (qCache6 : PySem.W.keepIn K (.ref CCache) = true)
    (pCache0 : PySem.W.findIn K (.ref CCache) "_renderings" = some none)
    (qSnapshot0 : PySem.W.nsIn K mainGlobals "Snapshot" = some (some (.ref CSnapshot))) (qSnapshot1 : PySem.W.plainGet K CSnapshot Str.empty = true) (qSnapshot2 : PySem.W.hasDictIn K CSnapshot = true) (qSnapshot3 : PySem.W.plainOver K CSnapshot = true) (qSnapshot4 : PySem.W.findIn K (.ref CSnapshot) "__setattr__" = some (some (.builtin "object.__setattr__"))) (qSnapshot5 : PySem.W.makesIn K CSnapshot = true) (qSnapshot6 : PySem.W.keepIn K (.ref CSnapshot) = true)
    (pSnapshot0 : PySem.W.findIn K (.ref CSnapshot) "_pages" = some none)
    (pSnapshot1 : PySem.W.findIn K (.ref CSnapshot) "_told" = some none)
    (pSnapshot2 : PySem.W.findIn K (.ref CSnapshot) "_results" = some none)
    (z0 : PySem.W.nsIn K mainGlobals "len" = some none)
    (z1 : PySem.W.nsIn K mainGlobals "range" = some none)
    (z2 : PySem.W.nsIn K mainGlobals "int" = some none)
    (z3 : PySem.W.nsIn K mainGlobals "repr" = some none)
    (z4 : PySem.W.nsIn K mainGlobals "max" = some none)
    (z5 : PySem.W.nsIn K mainGlobals "all" = some none)
    (z6 : PySem.W.nsIn K mainGlobals "list" = some none)
    (z7 : PySem.W.nsIn K mainGlobals "tuple" = some none)
    (z8 : PySem.W.nsIn K mainGlobals "sorted" = some none)
    (z9 : PySem.W.nsIn K mainGlobals "dict" = some none)
    (n0 : PySem.W.nsIn K mainGlobals "NAME_MOST" = some (some (.int 6 t0)))
    (n1 : PySem.W.nsIn K mainGlobals "RENDERINGS_MOST" = some (some (.int 4 t1)))
    (xg0 : PySem.W.nsIn K mainGlobals "_SIGNS" = some (some (.ref sg)))
    (xg1 : K.lookup sg = some ⟨.type "dict", none, .dict es en, #[]⟩)
    (xg2 : (sg == sysModules) = false)
    (xg3 : PySem.W.KeysLit w.params es.toList)
    (xg4 : PySem.W.nsIn K sg "include" = some (some (.ref p0)))
    (xg5 : PySem.W.nsIn K sg "indirect" = some (some (.ref p1)))
    (xg6 : PySem.W.nsIn K sg "link" = some (some (.ref p2)))
    (xg7 : Pg.Entries es [(.str "include", .ref p0), (.str "indirect", .ref p1), (.str "link", .ref p2)])
    (xg8 : K.lookup p0 = some ⟨.type "tuple", dd0, .seq i0 m0, ls0⟩)
    (xg9 : L2.Vals [.str "<", .str ">"] i0.toList)
    (xga : K.lookup p1 = some ⟨.type "tuple", dd1, .seq i1 m1, ls1⟩)
    (xgb : L2.Vals [.str "<@", .str ">"] i1.toList)
    (xgc : K.lookup p2 = some ⟨.type "tuple", dd2, .seq i2 m2, ls2⟩)
    (xgd : L2.Vals [.str "[", .str "]"] i2.toList)
    (xn0 : PySem.W.nsIn K mainGlobals "NOTHING" = some (some (.ref nA)))
    (xn1 : K.lookup nA = some ⟨.type "tuple", nD, .seq nI nM, nL⟩)
    (xn2 : L2.Vals [.str "text", .str "?", .ref nB] nI.toList)
    (xn3 : K.lookup nB = some ⟨.type "tuple", nE, .seq nJ nN, nK⟩)
    (xn4 : L2.Vals ([] : List V) nJ.toList) :
    ∃ fd : FuncData, (∀ (s : Shared) (v : Value), BindsTo s fd ⟨[v], []⟩ [("script", v)]) ∧ ∀ base : Heap, K.In base → base.Ns mainGlobals mg → FnG l.prog w K mg base 9 fa fd ["script"] (spLaw K) := by
  obtain rfl : fa = f38 := by
    have e := hfa.symm.trans (PySem.W.mg_of X G a38)
    cases e
    rfl
  have z : Z mg := ⟨PySem.W.mg_none_of X G z0, PySem.W.mg_none_of X G z1, PySem.W.mg_none_of X G z2, PySem.W.mg_none_of X G z3, PySem.W.mg_none_of X G z4, PySem.W.mg_none_of X G z5, PySem.W.mg_none_of X G z6, PySem.W.mg_none_of X G z7, PySem.W.mg_none_of X G z8, PySem.W.mg_none_of X G z9, ⟨_, PySem.W.mg_of X G n0⟩, ⟨_, PySem.W.mg_of X G n1⟩⟩
  have two : ∀ {xs : List V} {i : Array Value}, xs.length = 2 → Vals xs i.toList → i.size ≤ sizeLine := fun h v => by
    have := v.length
    rw [h, Array.length_toList] at this
    rw [← this]
    decide
  have gs : Signs w K mg sg := ⟨PySem.W.mg_of X G xg0, xg2, es, en, p0, p1, p2, xg1, xg3, xg7, ⟨_, _, _, xg8, rfl, rfl, two rfl xg9, xg9⟩, ⟨_, _, _, xga, rfl, rfl, two rfl xgb, xgb⟩, ⟨_, _, _, xgc, rfl, rfl, two rfl xgd, xgd⟩, xg4, xg5, xg6⟩
  have nt : Nothing K mg nA := by
    have two : ∀ {xs : List V} {i : Array Value}, xs.length ≤ 7 → Vals xs i.toList → i.size ≤ sizeLine := fun {xs i} h v => by
      have e : i.size = xs.length := by rw [v.length, Array.length_toList]
      rw [e]
      exact Nat.le_trans h (by decide)
    exact ⟨PySem.W.mg_of X G xn0, nB, ⟨_, _, _, xn1, rfl, rfl, two (by show 3 ≤ 7; decide) xn2, xn2⟩, ⟨_, _, _, xn3, rfl, rfl, two (by show 0 ≤ 7; decide) xn4, xn4⟩⟩
  have tCache : T_Cache K mg CCache := ⟨⟨qCache1, qCache2, qCache3, qCache4⟩, PySem.W.mg_of X G qCache0, pCache0⟩
  have tSnapshot : T_Snapshot K mg CSnapshot := ⟨⟨qSnapshot1, qSnapshot2, qSnapshot3, qSnapshot4⟩, PySem.W.mg_of X G qSnapshot0, pSnapshot0, pSnapshot1, pSnapshot2⟩
  have F0 := fun_mk (st := s_law_cell) l0 c0 k0
  have b0 := F0.binds (ps := ["script", "k"]) fun _ _ _ _ _ _ us hl => match us, hl with | [_, _], _ => rfl
  have F1 := fun_mk (st := s_law_digits) l1 c1 k1
  have b1 := F1.binds (ps := ["script", "first", "last"]) fun _ _ _ _ _ _ us hl => match us, hl with | [_, _, _], _ => rfl
  have F2 := fun_mk (st := s_law_is_name) l2 c2 k2
  have b2 := F2.binds (ps := ["text"]) fun _ _ _ _ _ _ us hl => match us, hl with | [_], _ => rfl
  have F3 := fun_mk (st := s_law_draw) l3 c3 k3
  have b3 := F3.binds (ps := ["box", "many"]) fun _ _ _ _ _ _ us hl => match us, hl with | [_, _], _ => rfl
  have F4 := fun_mk (st := s_law_name) l4 c4 k4
  have b4 := F4.binds (ps := ["box"]) fun _ _ _ _ _ _ us hl => match us, hl with | [_], _ => rfl
  have F5 := fun_mk (st := s_law_text) l5 c5 k5
  have b5 := F5.binds (ps := ["box", "most"]) fun _ _ _ _ _ _ us hl => match us, hl with | [_, _], _ => rfl
  have F6 := fun_mk (st := s_law_alike) l6 c6 k6
  have b6 := F6.binds (ps := ["one", "two"]) fun _ _ _ _ _ _ us hl => match us, hl with | [_, _], _ => rfl
  have F7 := fun_mk (st := s_law_bracket) l7 c7 k7
  have b7 := F7.binds (ps := ["name", "text", "at"]) fun _ _ _ _ _ _ us hl => match us, hl with | [_, _, _], _ => rfl
  have F8 := fun_mk (st := s_law_split) l8 c8 k8
  have b8 := F8.binds (ps := ["name", "text"]) fun _ _ _ _ _ _ us hl => match us, hl with | [_, _], _ => rfl
  have F9 := fun_mk (st := s_is_name) l9 c9 k9
  have b9 := F9.binds (ps := ["text"]) fun _ _ _ _ _ _ us hl => match us, hl with | [_], _ => rfl
  have F10 := fun_mk (st := s_is_after) l10 c10 k10
  have b10 := F10.binds (ps := ["one", "other"]) fun _ _ _ _ _ _ us hl => match us, hl with | [_, _], _ => rfl
  have F11 := fun_mk (st := s_plain) l11 c11 k11
  have b11 := F11.binds (ps := ["characters"]) fun _ _ _ _ _ _ us hl => match us, hl with | [_], _ => rfl
  have F12 := fun_mk (st := s_text_of) l12 c12 k12
  have b12 := F12.binds (ps := ["segment"]) fun _ _ _ _ _ _ us hl => match us, hl with | [_], _ => rfl
  have F13 := fun_mk (st := s_segment_at) l13 c13 k13
  have b13 := F13.binds (ps := ["name", "text", "at"]) fun _ _ _ _ _ _ us hl => match us, hl with | [_, _, _], _ => rfl
  have F14 := fun_mk (st := s_split) l14 c14 k14
  have b14 := F14.binds (ps := ["name", "text"]) fun _ _ _ _ _ _ us hl => match us, hl with | [_, _], _ => rfl
  have F15 := fun_mk (st := s_leads_on) l15 c15 k15
  have b15 := F15.binds (ps := ["name", "outcome"]) fun _ _ _ _ _ _ us hl => match us, hl with | [_, _], _ => rfl
  have F16 := fun_mk (st := s_told_dependencies) l16 c16 k16
  have b16 := F16.binds (ps := ["name", "text", "results"]) fun _ _ _ _ _ _ us hl => match us, hl with | [_, _, _], _ => rfl
  have F17 := fun_mk (st := s_all_required) l17 c17 k17
  have b17 := F17.binds (ps := ["pages", "told"]) fun _ _ _ _ _ _ us hl => match us, hl with | [_, _], _ => rfl
  have F18 := fun_mk (st := s_all_known) l18 c18 k18
  have b18 := F18.binds (ps := ["found"]) fun _ _ _ _ _ _ us hl => match us, hl with | [_], _ => rfl
  have F19 := fun_mk (st := s_Cache_init) l19 c19 k19
  have b19 := F19.binds (ps := ["self"]) fun _ _ _ _ _ _ us hl => match us, hl with | [_], _ => rfl
  have F20 := fun_mk (st := s_Cache_renderings) l20 c20 k20
  have b20 := F20.binds (ps := ["self", "name"]) fun _ _ _ _ _ _ us hl => match us, hl with | [_, _], _ => rfl
  have F21 := fun_mk (st := s_Cache_add) l21 c21 k21
  have b21 := F21.binds (ps := ["self", "rendering"]) fun _ _ _ _ _ _ us hl => match us, hl with | [_, _], _ => rfl
  have F22 := fun_mk (st := s_Cache_find) l22 c22 k22
  have b22 := F22.binds (ps := ["self", "name", "text", "found"]) fun _ _ _ _ _ _ us hl => match us, hl with | [_, _, _, _], _ => rfl
  have F23 := fun_mk (st := s_Snapshot_init) l23 c23 k23
  have b23 := F23.binds (ps := ["self", "sources", "pages", "attempts", "cache"]) fun _ _ _ _ _ _ us hl => match us, hl with | [_, _, _, _, _], _ => rfl
  have F24 := fun_mk (st := s_Snapshot_known) l24 c24 k24
  have b24 := F24.binds (ps := ["self", "name"]) fun _ _ _ _ _ _ us hl => match us, hl with | [_, _], _ => rfl
  have F25 := fun_mk (st := s_Snapshot_told) l25 c25 k25
  have b25 := F25.binds (ps := ["self", "name"]) fun _ _ _ _ _ _ us hl => match us, hl with | [_, _], _ => rfl
  have F26 := fun_mk (st := s_Snapshot_required) l26 c26 k26
  have b26 := F26.binds (ps := ["self"]) fun _ _ _ _ _ _ us hl => match us, hl with | [_], _ => rfl
  have F27 := fun_mk (st := s_Snapshot_renderable) l27 c27 k27
  have b27 := F27.binds (ps := ["self"]) fun _ _ _ _ _ _ us hl => match us, hl with | [_], _ => rfl
  have F28 := fun_mk (st := s_Snapshot_is_ready) l28 c28 k28
  have b28 := F28.binds (ps := ["self"]) fun _ _ _ _ _ _ us hl => match us, hl with | [_], _ => rfl
  have F29 := fun_mk (st := s_law_pages) l29 c29 k29
  have b29 := F29.binds (ps := ["box"]) fun _ _ _ _ _ _ us hl => match us, hl with | [_], _ => rfl
  have F30 := fun_mk (st := s_law_sources) l30 c30 k30
  have b30 := F30.binds (ps := ["box", "most"]) fun _ _ _ _ _ _ us hl => match us, hl with | [_, _], _ => rfl
  have F31 := fun_mk (st := s_law_joined) l31 c31 k31
  have b31 := F31.binds (ps := ["name", "text", "found"]) fun _ _ _ _ _ _ us hl => match us, hl with | [_, _, _], _ => rfl
  have F32 := fun_mk (st := s_law_rendered) l32 c32 k32
  have b32 := F32.binds (ps := ["name", "text", "attempts", "found"]) fun _ _ _ _ _ _ us hl => match us, hl with | [_, _, _, _], _ => rfl
  have F33 := fun_mk (st := s_law_known) l33 c33 k33
  have b33 := F33.binds (ps := ["known", "sources", "name"]) fun _ _ _ _ _ _ us hl => match us, hl with | [_, _, _], _ => rfl
  have F34 := fun_mk (st := s_law_told) l34 c34 k34
  have b34 := F34.binds (ps := ["known", "sources", "name"]) fun _ _ _ _ _ _ us hl => match us, hl with | [_, _, _], _ => rfl
  have F35 := fun_mk (st := s_law_filled) l35 c35 k35
  have b35 := F35.binds (ps := ["box", "cache", "sources", "attempts"]) fun _ _ _ _ _ _ us hl => match us, hl with | [_, _, _, _], _ => rfl
  have F36 := fun_mk (st := s_law_later) l36 c36 k36
  have b36 := F36.binds (ps := ["handed", "cache", "known", "sources", "attempts"]) fun _ _ _ _ _ _ us hl => match us, hl with | [_, _, _, _, _], _ => rfl
  have F37 := fun_mk (st := s_law_needed) l37 c37 k37
  have b37 := F37.binds (ps := ["known", "sources", "pages"]) fun _ _ _ _ _ _ us hl => match us, hl with | [_, _, _], _ => rfl
  have F38 := fun_mk (st := s_law) l38 c38 k38
  refine ⟨PySem.W.fnOf "law" "law" (defArgs s_law) (defBody s_law) (defScope s_law) .none kV38 dc38 pm38 an38 cd38 ct38, fun s v => .of_eq rfl, fun base _ _ => ?_⟩
  have C_law_cell : Cal l.prog w K mg base "_law_cell" 1 ["script", "k"] (spCell K) := ⟨f0, _, ok_law_cell F0 z , b0, PySem.W.mg_of X G a0, k0⟩
  have C_law_digits : Cal l.prog w K mg base "_law_digits" 2 ["script", "first", "last"] (spDigits K) := ⟨f1, _, ok_law_digits F1 z C_law_cell, b1, PySem.W.mg_of X G a1, k1⟩
  have C_law_is_name : Cal l.prog w K mg base "_law_is_name" 1 ["text"] spIsName := ⟨f2, _, ok_law_is_name F2 z , b2, PySem.W.mg_of X G a2, k2⟩
  have C_law_draw : Cal l.prog w K mg base "_law_draw" 1 ["box", "many"] spDraw := ⟨f3, _, ok_law_draw F3 z , b3, PySem.W.mg_of X G a3, k3⟩
  have C_law_name : Cal l.prog w K mg base "_law_name" 2 ["box"] spName := ⟨f4, _, ok_law_name F4 z C_law_draw, b4, PySem.W.mg_of X G a4, k4⟩
  have C_law_text : Cal l.prog w K mg base "_law_text" 3 ["box", "most"] spText := ⟨f5, _, ok_law_text F5 z C_law_draw C_law_name, b5, PySem.W.mg_of X G a5, k5⟩
  have C_law_alike : CalG l.prog w K mg base "_law_alike" 1 ["one", "two"] (spAlike K) := ⟨f6, _, ok_law_alike F6 z , b6, PySem.W.mg_of X G a6, k6⟩
  have C_law_bracket : Cal l.prog w K mg base "_law_bracket" 2 ["name", "text", "at"] spBracket := ⟨f7, _, ok_law_bracket F7 z C_law_is_name, b7, PySem.W.mg_of X G a7, k7⟩
  have C_law_split : Cal l.prog w K mg base "_law_split" 3 ["name", "text"] spSplitL := ⟨f8, _, ok_law_split F8 z C_law_bracket, b8, PySem.W.mg_of X G a8, k8⟩
  have C_is_name : Cal l.prog w K mg base "is_name" 1 ["text"] spIsNameP := ⟨f9, _, ok_is_name F9 z , b9, PySem.W.mg_of X G a9, k9⟩
  have C_is_after : Cal l.prog w K mg base "is_after" 1 ["one", "other"] spAfter := ⟨f10, _, ok_is_after F10 z , b10, PySem.W.mg_of X G a10, k10⟩
  have C_plain : Cal l.prog w K mg base "_plain" 1 ["characters"] spPlain := ⟨f11, _, ok_plain F11 z , b11, PySem.W.mg_of X G a11, k11⟩
  have C_text_of : Cal l.prog w K mg base "_text_of" 1 ["segment"] (spTextOf K) := ⟨f12, _, ok_text_of F12 z gs, b12, PySem.W.mg_of X G a12, k12⟩
  have C_segment_at : Cal l.prog w K mg base "_segment_at" 2 ["name", "text", "at"] spSegAt := ⟨f13, _, ok_segment_at F13 z gs C_is_name C_is_after, b13, PySem.W.mg_of X G a13, k13⟩
  have C_split : Cal l.prog w K mg base "split" 3 ["name", "text"] spSplit := ⟨f14, _, ok_split F14 z C_plain C_text_of C_segment_at, b14, PySem.W.mg_of X G a14, k14⟩
  have C_leads_on : Cal l.prog w K mg base "_leads_on" 2 ["name", "outcome"] (spLeads K) := ⟨f15, _, ok_leads_on F15 z C_is_name C_is_after, b15, PySem.W.mg_of X G a15, k15⟩
  have C_told_dependencies : Cal l.prog w K mg base "told_dependencies" 4 ["name", "text", "results"] (spTold K) := ⟨f16, _, ok_told_dependencies F16 z nt C_split C_leads_on, b16, PySem.W.mg_of X G a16, k16⟩
  have C_all_required : Cal l.prog w K mg base "all_required" 1 ["pages", "told"] (spAllReq K) := ⟨f17, _, ok_all_required F17 z , b17, PySem.W.mg_of X G a17, k17⟩
  have C_all_known : Cal l.prog w K mg base "_all_known" 1 ["found"] (spAllKnown K) := ⟨f18, _, ok_all_known F18 z , b18, PySem.W.mg_of X G a18, k18⟩
  have C_Cache : CalK l.prog w K mg base "Cache" CCache 1 ["self"] (spCInit K CCache) := ⟨PySem.W.mg_of X G qCache0, f19, _, ⟨qCache5, a19, i19, qCache6⟩, ok_Cache_init F19 z tCache, b19⟩
  have C_Cache_renderings : CalM l.prog w K mg base CCache "renderings" 1 ["self", "name"] (spCRen K CCache) := ⟨tCache.cl, f20, _, ok_Cache_renderings F20 z tCache, b20, ⟨a20, i20, k20⟩⟩
  have C_Cache_add : CalM l.prog w K mg base CCache "add" 2 ["self", "rendering"] (spCAdd K CCache) := ⟨tCache.cl, f21, _, ok_Cache_add F21 z tCache C_Cache_renderings, b21, ⟨a21, i21, k21⟩⟩
  have C_Cache_find : CalM l.prog w K mg base CCache "find" 2 ["self", "name", "text", "found"] (spCFind K CCache) := ⟨tCache.cl, f22, _, ok_Cache_find F22 z tCache C_Cache_renderings, b22, ⟨a22, i22, k22⟩⟩
  have C_Snapshot : CalK l.prog w K mg base "Snapshot" CSnapshot 5 ["self", "sources", "pages", "attempts", "cache"] (spSInit K CSnapshot CCache) := ⟨PySem.W.mg_of X G qSnapshot0, f23, _, ⟨qSnapshot5, a23, i23, qSnapshot6⟩, ok_Snapshot_init F23 z tSnapshot C_told_dependencies C_all_known C_Cache_find, b23⟩
  have C_Snapshot_known : CalM l.prog w K mg base CSnapshot "known" 1 ["self", "name"] (spSKnown K CSnapshot) := ⟨tSnapshot.cl, f24, _, ok_Snapshot_known F24 z tSnapshot nt, b24, ⟨a24, i24, k24⟩⟩
  have C_Snapshot_told : CalM l.prog w K mg base CSnapshot "told" 1 ["self", "name"] (spSTold K CSnapshot) := ⟨tSnapshot.cl, f25, _, ok_Snapshot_told F25 z tSnapshot, b25, ⟨a25, i25, k25⟩⟩
  have C_Snapshot_required : CalM l.prog w K mg base CSnapshot "required" 2 ["self"] (spSReq K CSnapshot) := ⟨tSnapshot.cl, f26, _, ok_Snapshot_required F26 z tSnapshot C_all_required, b26, ⟨a26, i26, k26⟩⟩
  have C_Snapshot_renderable : CalM l.prog w K mg base CSnapshot "renderable" 3 ["self"] (spSRen K CSnapshot) := ⟨tSnapshot.cl, f27, _, ok_Snapshot_renderable F27 z tSnapshot C_all_known C_Snapshot_required C_Snapshot_known, b27, ⟨a27, i27, k27⟩⟩
  have C_Snapshot_is_ready : CalM l.prog w K mg base CSnapshot "is_ready" 3 ["self"] (spSReady K CSnapshot) := ⟨tSnapshot.cl, f28, _, ok_Snapshot_is_ready F28 z tSnapshot C_Snapshot_required C_Snapshot_known, b28, ⟨a28, i28, k28⟩⟩
  have C_law_pages : Cal l.prog w K mg base "_law_pages" 3 ["box"] spPagesL := ⟨f29, _, ok_law_pages F29 z C_law_draw C_law_name, b29, PySem.W.mg_of X G a29, k29⟩
  have C_law_sources : Cal l.prog w K mg base "_law_sources" 4 ["box", "most"] spSources := ⟨f30, _, ok_law_sources F30 z C_law_draw C_law_name C_law_text, b30, PySem.W.mg_of X G a30, k30⟩
  have C_law_joined : Cal l.prog w K mg base "_law_joined" 4 ["name", "text", "found"] (spJoined K) := ⟨f31, _, ok_law_joined F31 z C_law_is_name C_law_split, b31, PySem.W.mg_of X G a31, k31⟩
  have C_law_rendered : Cal l.prog w K mg base "_law_rendered" 5 ["name", "text", "attempts", "found"] (spRendered K) := ⟨f32, _, ok_law_rendered F32 z C_law_joined, b32, PySem.W.mg_of X G a32, k32⟩
  have C_law_known : Cal l.prog w K mg base "_law_known" 1 ["known", "sources", "name"] (spKnownL K) := ⟨f33, _, ok_law_known F33 z , b33, PySem.W.mg_of X G a33, k33⟩
  have C_law_told : Cal l.prog w K mg base "_law_told" 4 ["known", "sources", "name"] (spToldL K) := ⟨f34, _, ok_law_told F34 z C_law_is_name C_law_split C_law_known, b34, PySem.W.mg_of X G a34, k34⟩
  have C_law_filled : Cal l.prog w K mg base "_law_filled" 6 ["box", "cache", "sources", "attempts"] (spFilled K CCache) := ⟨f35, _, ok_law_filled F35 z C_law_draw C_law_rendered C_law_told C_Cache_add, b35, PySem.W.mg_of X G a35, k35⟩
  have C_law_later : Cal l.prog w K mg base "_law_later" 6 ["handed", "cache", "known", "sources", "attempts"] (spLater K CCache) := ⟨f36, _, ok_law_later F36 z C_law_rendered C_law_told C_Cache_add, b36, PySem.W.mg_of X G a36, k36⟩
  have C_law_needed : Cal l.prog w K mg base "_law_needed" 5 ["known", "sources", "pages"] (spNeeded K) := ⟨f37, _, ok_law_needed F37 z C_law_told, b37, PySem.W.mg_of X G a37, k37⟩
  exact ok_law F38 z C_law_digits C_law_draw C_law_alike C_law_sources C_law_pages C_law_known C_law_told C_law_filled C_law_later C_law_needed C_Cache C_Snapshot C_Snapshot_known C_Snapshot_told C_Snapshot_required C_Snapshot_renderable C_Snapshot_is_ready
end K07
open PySem PySem.W PyProof.Rows
set_option maxRecDepth 100000 in
set_option maxHeartbeats 0 in
theorem PySem.Challenge.cw_pagesatonce_k07_snapshots_and_what_is_kn_holds : PySem.Challenge.rw_pagesatonce_k07_snapshots_and_what_is_kn.Holds := by
  w_on; o_law; k_head; (case hw => w_witness2)
  k_fill
  refine Pg.walkG (l := PySem.Challenge.rw_pagesatonce_k07_snapshots_and_what_is_kn) (n := 63) (k := 9) (x := "script") (sp := K07.spLaw) rfl (by decide) rfl ⟨rfl, by decide, by decide⟩ (fun w h Y => PySem.W.kIn_of Y) ?F (fun K H a ns hl hS => ⟨a, ns, rfl, hS, hl, fun _ => rfl⟩)
  case F =>
    intro w mg fa h KX G hmg
    refine' K07.all_mk KX G hmg ?a0 ?l0 ?c0 ?k0 ?a1 ?l1 ?c1 ?k1 ?a2 ?l2 ?c2 ?k2 ?a3 ?l3 ?c3 ?k3 ?a4 ?l4 ?c4 ?k4 ?a5 ?l5 ?c5 ?k5 ?a6 ?l6 ?c6 ?k6 ?a7 ?l7 ?c7 ?k7 ?a8 ?l8 ?c8 ?k8 ?a9 ?l9 ?c9 ?k9 ?a10 ?l10 ?c10 ?k10 ?a11 ?l11 ?c11 ?k11 ?a12 ?l12 ?c12 ?k12 ?a13 ?l13 ?c13 ?k13 ?a14 ?l14 ?c14 ?k14 ?a15 ?l15 ?c15 ?k15 ?a16 ?l16 ?c16 ?k16 ?a17 ?l17 ?c17 ?k17 ?a18 ?l18 ?c18 ?k18 ?a19 ?i19 ?l19 ?c19 ?k19 ?a20 ?i20 ?l20 ?c20 ?k20 ?a21 ?i21 ?l21 ?c21 ?k21 ?a22 ?i22 ?l22 ?c22 ?k22 ?a23 ?i23 ?l23 ?c23 ?k23 ?a24 ?i24 ?l24 ?c24 ?k24 ?a25 ?i25 ?l25 ?c25 ?k25 ?a26 ?i26 ?l26 ?c26 ?k26 ?a27 ?i27 ?l27 ?c27 ?k27 ?a28 ?i28 ?l28 ?c28 ?k28 ?a29 ?l29 ?c29 ?k29 ?a30 ?l30 ?c30 ?k30 ?a31 ?l31 ?c31 ?k31 ?a32 ?l32 ?c32 ?k32 ?a33 ?l33 ?c33 ?k33 ?a34 ?l34 ?c34 ?k34 ?a35 ?l35 ?c35 ?k35 ?a36 ?l36 ?c36 ?k36 ?a37 ?l37 ?c37 ?k37 ?a38 ?l38 ?c38 ?k38 ?qCache0 ?qCache1 ?qCache2 ?qCache3 ?qCache4 ?qCache5 ?qCache6 ?pCache0 ?qSnapshot0 ?qSnapshot1 ?qSnapshot2 ?qSnapshot3 ?qSnapshot4 ?qSnapshot5 ?qSnapshot6 ?pSnapshot0 ?pSnapshot1 ?pSnapshot2 ?z0 ?z1 ?z2 ?z3 ?z4 ?z5 ?z6 ?z7 ?z8 ?z9 ?n0 ?n1 ?xg0 ?xg1 ?xg2 ?xg3 ?xg4 ?xg5 ?xg6 ?xg7 ?xg8 ?xg9 ?xga ?xgb ?xgc ?xgd ?xn0 ?xn1 ?xn2 ?xn3 ?xn4
    (case qCache0 => k_is); (case qCache1 => k_is); (case qCache2 => k_is); (case qCache3 => k_is); (case qCache4 => k_is); (case qCache5 => k_is)
    (case qCache6 => k_is); (case pCache0 => k_is); (case qSnapshot0 => k_is); (case qSnapshot1 => k_is); (case qSnapshot2 => k_is); (case qSnapshot3 => k_is)
    (case qSnapshot4 => k_is); (case qSnapshot5 => k_is); (case qSnapshot6 => k_is); (case pSnapshot0 => k_is); (case pSnapshot1 => k_is); (case pSnapshot2 => k_is)
    (case a0 => k_is); (case l0 => k_is); (case c0 => k_is); (case k0 => k_is); (case a1 => k_is); (case l1 => k_is)
    (case c1 => k_is); (case k1 => k_is); (case a2 => k_is); (case l2 => k_is); (case c2 => k_is); (case k2 => k_is)
    (case a3 => k_is); (case l3 => k_is); (case c3 => k_is); (case k3 => k_is); (case a4 => k_is); (case l4 => k_is)
    (case c4 => k_is); (case k4 => k_is); (case a5 => k_is); (case l5 => k_is); (case c5 => k_is); (case k5 => k_is)
    (case a6 => k_is); (case l6 => k_is); (case c6 => k_is); (case k6 => k_is); (case a7 => k_is); (case l7 => k_is)
    (case c7 => k_is); (case k7 => k_is); (case a8 => k_is); (case l8 => k_is); (case c8 => k_is); (case k8 => k_is)
    (case a9 => k_is); (case l9 => k_is); (case c9 => k_is); (case k9 => k_is); (case a10 => k_is); (case l10 => k_is)
    (case c10 => k_is); (case k10 => k_is); (case a11 => k_is); (case l11 => k_is); (case c11 => k_is); (case k11 => k_is)
    (case a12 => k_is); (case l12 => k_is); (case c12 => k_is); (case k12 => k_is); (case a13 => k_is); (case l13 => k_is)
    (case c13 => k_is); (case k13 => k_is); (case a14 => k_is); (case l14 => k_is); (case c14 => k_is); (case k14 => k_is)
    (case a15 => k_is); (case l15 => k_is); (case c15 => k_is); (case k15 => k_is); (case a16 => k_is); (case l16 => k_is)
    (case c16 => k_is); (case k16 => k_is); (case a17 => k_is); (case l17 => k_is); (case c17 => k_is); (case k17 => k_is)
    (case a18 => k_is); (case l18 => k_is); (case c18 => k_is); (case k18 => k_is); (case a19 => k_is); (case i19 => k_is)
    (case l19 => k_is); (case c19 => k_is); (case k19 => k_is); (case a20 => k_is); (case i20 => k_is); (case l20 => k_is)
    (case c20 => k_is); (case k20 => k_is); (case a21 => k_is); (case i21 => k_is); (case l21 => k_is); (case c21 => k_is)
    (case k21 => k_is); (case a22 => k_is); (case i22 => k_is); (case l22 => k_is); (case c22 => k_is); (case k22 => k_is)
    (case a23 => k_is); (case i23 => k_is); (case l23 => k_is); (case c23 => k_is); (case k23 => k_is); (case a24 => k_is)
    (case i24 => k_is); (case l24 => k_is); (case c24 => k_is); (case k24 => k_is); (case a25 => k_is); (case i25 => k_is)
    (case l25 => k_is); (case c25 => k_is); (case k25 => k_is); (case a26 => k_is); (case i26 => k_is); (case l26 => k_is)
    (case c26 => k_is); (case k26 => k_is); (case a27 => k_is); (case i27 => k_is); (case l27 => k_is); (case c27 => k_is)
    (case k27 => k_is); (case a28 => k_is); (case i28 => k_is); (case l28 => k_is); (case c28 => k_is); (case k28 => k_is)
    (case a29 => k_is); (case l29 => k_is); (case c29 => k_is); (case k29 => k_is); (case a30 => k_is); (case l30 => k_is)
    (case c30 => k_is); (case k30 => k_is); (case a31 => k_is); (case l31 => k_is); (case c31 => k_is); (case k31 => k_is)
    (case a32 => k_is); (case l32 => k_is); (case c32 => k_is); (case k32 => k_is); (case a33 => k_is); (case l33 => k_is)
    (case c33 => k_is); (case k33 => k_is); (case a34 => k_is); (case l34 => k_is); (case c34 => k_is); (case k34 => k_is)
    (case a35 => k_is); (case l35 => k_is); (case c35 => k_is); (case k35 => k_is); (case a36 => k_is); (case l36 => k_is)
    (case c36 => k_is); (case k36 => k_is); (case a37 => k_is); (case l37 => k_is); (case c37 => k_is); (case k37 => k_is)
    (case a38 => k_is); (case l38 => k_is); (case c38 => k_is); (case k38 => k_is); (case z0 => k_is); (case z1 => k_is)
    (case z2 => k_is); (case z3 => k_is); (case z4 => k_is); (case z5 => k_is); (case z6 => k_is); (case z7 => k_is)
    (case z8 => k_is); (case z9 => k_is); (case n0 => k_is); (case n1 => k_is)
    (case xg0 => k_is)
    (case xg1 => k_is)
    (case xg2 => rfl)
    (case xg3 => exact ⟨⟨_, _, rfl, rfl⟩, ⟨_, _, rfl, rfl⟩, ⟨_, _, rfl, rfl⟩, trivial⟩)
    (case xg4 => k_is)
    (case xg5 => k_is)
    (case xg6 => k_is)
    (case xg7 => exact Pg.entries3 ⟨_, rfl⟩ rfl ⟨_, rfl⟩ rfl ⟨_, rfl⟩ rfl)
    (case xg8 => k_is)
    (case xg9 => exact .cons ⟨_, rfl⟩ (.cons ⟨_, rfl⟩ .nil))
    (case xga => k_is)
    (case xgb => exact .cons ⟨_, rfl⟩ (.cons ⟨_, rfl⟩ .nil))
    (case xgc => k_is)
    (case xgd => exact .cons ⟨_, rfl⟩ (.cons ⟨_, rfl⟩ .nil))
    (case xn0 => k_is)
    (case xn1 => k_is)
    (case xn2 => exact .cons ⟨_, rfl⟩ (.cons ⟨_, rfl⟩ (.cons rfl .nil)))
    (case xn3 => k_is)
    (case xn4 => exact .nil)

