import PyProof.Rows.All
import Wide.All
import OpenK.AllK
import Wide.FinOn
import PyProof.ReprRoads
import HandS.ForMost
import HandS.Strs
import HandS.StrMore
import HandS.TupAny
import HandS.RaiseMore
import HandS.Codes
import HandS.SetFor
import KE.KDictWalk
import PyProof.Rows.SortShellAny
import HandS.Style
import PyProof.Rows.ReprShort
import PyProof.ReprBulk
import PySem.Challenge.RW_pagesatonce_k02_segments_of_texts
set_option Elab.async false
set_option linter.all false
set_option maxRecDepth 100000
set_option maxHeartbeats 4000000
/-! Promises of defs that are called while no repr is under way (for repr of lists and tuples). -/
namespace Pg
open PySem PySem.Spec PyProof.Rows L2

section
variable {P : Program} {w : World} {K : PySem.W.Frag} {mg : Str → Option Value} {base : Heap}

/-- the promise of a def that is only called where no repr runs -/
structure FnG (P : Program) (w : World) (K : PySem.W.Frag) (mg : Str → Option Value) (base : Heap) (k : Nat) (f : Addr) (fd : FuncData) (ps : List Str) (sp : Sp) : Prop where
  few : ∀ vs H Q E, sp vs H Q E → vs.length = ps.length
  go : ∀ (A : Around) (fr : List Env) (s : Shared) (H : Hp) (gs : Args) (us : List Value) (vs : List V) (Q : VK), A.guards = some [] → Room k A → Env0 P w K mg base A fr s H →
    BindsTo s fd gs (ps.zip us) → Vals vs us → sp vs H Q E0 → codeAny (model P w) A (.call (.ref f) gs) (CR CX0 fr P w H s Q E0) s

/-- an ordinary promise serves there too -/
theorem FnG.of {k : Nat} {f : Addr} {fd : FuncData} {ps : List Str} {sp : Sp} (F : FnOk P w K mg base CX0 k f fd ps sp) : FnG P w K mg base k f fd ps sp :=
  ⟨F.len, fun A fr s H gs us vs Q _ hr e b r h => F.run A fr s H gs us vs Q E0 hr e b r h⟩

theorem FnG.mk' {x qual : Str} {st : Stmt} {f : Addr} {fd : FuncData} {N ps : List Str} {k : Nat} {sp : Sp} (D : Fun K x qual st f fd) (S : FnScope N ps (defScope st)) (few : ∀ vs H Q E, sp vs H Q E → vs.length = ps.length)
    (body : ∀ (cd : Value) (A : Around) (fr : List Env) (s : Shared) (H : Hp) (vs : List V) (Q : VK), A.guards = some [] → Room k (A.deeper (envOfC qual (defScope st) s.heap.objs.size f cd)) → sp vs H Q E0 →
      ∃ t, PSs (cxOf CX0 P w K mg base N qual (defScope st) f cd A fr s H E0).nox (defBody st) t ∧ t { nx := fun _ H' => Q .non H', rt := Q } (start N vs) H) : FnG P w K mg base (k + 1) f fd ps sp := by
  obtain ⟨_, _, _, _, _, _, cd, _, _, rfl, at_f, rec_ok⟩ := D.ex
  constructor
  · exact few
  intro A fr s H gs us vs Q hg hr e b r h
  have inK : K.In s.heap := e.mod.kin.keeps (fun c o q => (e.bs c o q).left)
  have nl : s.heap.NoLimit := e.mod.nolimit.keeps (fun c o q => (e.bs c o q).left)
  have kinds : ∀ y ∈ ps.zip us, (defScope st).names.lookup y.1 = some .local ∨
      ((defScope st).names.lookup y.1 = some .cell ∧ ((cellsFrom (s.heap.objs.size + 1) (defScope st).names []).lookup y.1).isSome = true) := by
    intro y hy
    obtain ⟨y1, y2⟩ := y
    cases S.par y1 (List.of_mem_zip hy).left with
    | inl q => left; exact q
    | inr q => right; exact ⟨q, PySem.W.cellsFrom_some _ _ _ (Or.inl q)⟩
  apply codeAny_call_function hr.depth (inK _ _ at_f) rfl S.co S.gen rfl (PySem.W.codeRec_of inK rec_ok)
  apply b
  apply wpAny_newFunctionEnv_cells S.kind kinds
  intro env he s1 x
  subst he
  refine And.intro (nl.keeps x.toInCall.keep) (codeAny_func ?_)
  obtain ⟨t, ht, q⟩ := body cd A fr s H vs Q hg (hr.deeper _) h
  have J0 := inv_start (E := E0) (CX := CX0) S hr.hd e (few _ _ _ _ h) r x
  apply wpAny_mono (ht.nox.run [] s1 _ H _ J0 q)
  · intro fl s2 hs
    match fl, hs with
    | .ret u, hs => obtain ⟨v, _, H2, J, rv, z⟩ := hs; exact ⟨v, H2, J.os, J.bare, J.base, J.hok, rv, z⟩
    | .next, hs => obtain ⟨_, H2, J, z⟩ := hs; exact ⟨V.non, H2, J.os, J.bare, J.base, J.hok, rfl, z⟩
    | .brk, hs => obtain ⟨_, _, _, z⟩ := hs; exact z.elim
    | .cont, hs => obtain ⟨_, _, _, z⟩ := hs; exact z.elim
  · intro _ _ z
    exact z

/-- a callee by its name, with all its arguments given -/
def Cal (P : Program) (w : World) (K : PySem.W.Frag) (mg : Str → Option Value) (base : Heap) (x : Str) (k : Nat) (ps : List Str) (sp : Sp) : Prop :=
  ∃ f fd, FnOk P w K mg base CX0 k f fd ps sp ∧ Binds K fd ps [] ∧ mg x = some (.ref f) ∧ PySem.W.keepIn K (.ref f) = true
def CalG (P : Program) (w : World) (K : PySem.W.Frag) (mg : Str → Option Value) (base : Heap) (x : Str) (k : Nat) (ps : List Str) (sp : Sp) : Prop :=
  ∃ f fd, FnG P w K mg base k f fd ps sp ∧ Binds K fd ps [] ∧ mg x = some (.ref f) ∧ PySem.W.keepIn K (.ref f) = true
theorem Cal.mono {x : Str} {j k : Nat} {ps : List Str} {sp : Sp} (C : Cal P w K mg base x j ps sp) (h : j ≤ k) : Cal P w K mg base x k ps sp :=
  let ⟨f, fd, F, r⟩ := C
  ⟨f, fd, F.mono h, r⟩
end

section
variable {X : Cx} {k : Nat} {x : Str} {ps : List Str} {sp : Sp} {p pos : Pos} {e : Expr} {es : List Expr} {t : TA}

theorem pe_cal (C : Cal X.prog X.w X.K X.mg X.base x k ps sp) (hr : Room k X.A) (hg : Gl X x) (ha : PA X (e :: es) t) (hdb : (x == ("__debug__" : Str)) = false := by decide)
    (he : starEach (e :: es) X.env = (false, eval e X.env) :: starEach es X.env := by rfl) (hpl : (backTo pos (starEach es X.env)).any (·.1) = false := by rfl) :
    PE X (.Call (.Name x p) (e :: es) [] pos) (tCall sp [] E0 t) := by
  obtain ⟨_, _, F, b, g, kp⟩ := C
  exact pe_call F hr hg g kp b .nil pass0 ha hdb he hpl

theorem pe_calG (C : CalG X.prog X.w X.K X.mg X.base x k ps sp) (gd : X.A.guards = some []) (hr : Room k X.A) (hg : Gl X x) (ha : PA X (e :: es) t) (hdb : (x == ("__debug__" : Str)) = false := by decide)
    (he : starEach (e :: es) X.env = (false, eval e X.env) :: starEach es X.env := by rfl) (hpl : (backTo pos (starEach es X.env)).any (·.1) = false := by rfl) :
    PE X (.Call (.Name x p) (e :: es) [] pos) (tCall sp [] E0 t) := by
  obtain ⟨f, fd, F, b, g, kp⟩ := C
  constructor
  intro pins s σ H Q I h
  apply wpAny_Call_Name_kw (ld_glob I hg g ?_ hdb)
  apply PySem.W.callWith_K (h₀ := X.base) I.ok.mod.kin kp ?_ he hpl
  apply thn (ha.run pos pins s σ H _ I h)
  rintro us s1 ⟨vs, H1, I1, r, q⟩
  refine And.intro I1.kIn ?_
  have q' : sp (vs ++ []) H1 Q E0 := q
  rw [List.append_nil] at q'
  have n1 : us.length = ps.length := by rw [← r.length]; exact F.few _ _ _ _ q'
  have bb := b s1 us I1.kIn (by rw [List.append_nil]; exact n1)
  rw [List.append_nil] at bb
  apply wpAny_call
  apply codeAny_mono (F.go X.A X.stack s1 H1 ⟨us, []⟩ us vs Q gd hr I1.env0 bb r q')
  intro res s2 z
  match res, z with
  | .ok (.ret u), z => exact I1.after z
  | .ok .next, z => exact False.elim z
  | .ok .brk, z => exact False.elim z
  | .ok .cont, z => exact False.elim z
  | .error _, z => exact False.elim z
end

/-! ### repr of data -/
section
variable {X : Cx}
/-- repr(v): v data of any depth -/
def rRepr (K : PySem.W.Frag) : List V → Hp → VK → Prop := fun xs H Q => ∃ v d, xs = [v] ∧ Dp K H v d ∧ d.showable = true ∧ d.hasDict = false ∧ d.depth ≤ 40 ∧ d.shown.length ≤ sizeLine ∧ Q (.str d.shown) H
theorem call_reprD (gd : X.A.guards = some []) (hu : X.A.units + 64 < cLine) : CallR X (.builtin "repr") (rRepr X.K) := by
  intro pins s σ H xs us Q I r h
  obtain ⟨v, d, rfl, hd, sh, nd, dep, sz, q⟩ := h
  obtain ⟨u, rfl, ru⟩ := vals1 r
  have fin : ∀ (h' : Heap) (u : Tok) (tk : Nat), (∀ b o, s.heap.get? b = some o → h'.get? b = some o) → EP X pins σ Q (.str d.shown u) { s with heap := h', toks := tk } :=
    fun h' u tk kp => ⟨.str d.shown, H, I.kept kp, ⟨u, rfl⟩, q⟩
  obtain ⟨as, rd⟩ := Dp.reads I d v u hd ru
  cases hd with
  | lst hs ha =>
    cases ru
    exact repr_of_reads' rd sh (PyData.noDict_hsm nd) gd (by omega) (fun _ _ z => z) fin sz
  | tup hs ha =>
    cases ru
    exact repr_of_reads' rd sh (PyData.noDict_hsm nd) gd (by omega) (fun _ _ z => z) fin sz
  | non =>
    cases ru
    exact PySem.P.repr_of_none (fin _ _ _ fun _ _ z => z)
  | bl b =>
    cases ru
    exact PySem.P.repr_of_bool (by simpa only [PyData.shown] using fin s.heap _ (s.toks + 1) fun _ _ z => z)
  | int i =>
    obtain ⟨t, rfl⟩ := ru
    exact PySem.P.repr_of_int (by simpa [PyData.showable] using sh) (by simpa only [PyData.shown] using fin s.heap _ (s.toks + 1) fun _ _ z => z)
  | str z =>
    obtain ⟨t, rfl⟩ := ru
    exact PySem.P.repr_of_str (by simpa only [PyData.shown] using fin s.heap _ (s.toks + 1) fun _ _ z => z) (by simpa only [PyData.shown] using sz)
end

/-! ### the law's own entry -/
section
variable {P : Program} {w : World} {K : PySem.W.Frag} {mg mb : Str → Option Value}
/-- the state in which the law is entered: at most the script is tracked -/
structure Entry (P : Program) (w : World) (K : PySem.W.Frag) (H : Hp) (h : Heap) (a : Addr) (ns : List Int) : Prop where
  only : Only H
  seq : SqL K H a (ns.map V.int)
  held : HOk P w H h
  nope : ∀ b, b ≠ a → H b = none
  off : H a = none ∨ K.lookup a = none
theorem Entry.there {s : Shared} {a : Addr} {vs : List Value} {ns : List Int} (hk : K.In s.heap) (at_a : s.heap.get? a = some { cls := .type "list", data := .seq vs.toArray }) (hi : IntsAre vs ns) (few : ns.length ≤ sizeLine) :
    ∃ H, Entry P w K H s.heap a ns := by
  have rel := vals_ints hi
  by_cases e : ∃ o, K.lookup a = some o
  · obtain ⟨o, e⟩ := e
    obtain rfl : o = { cls := .type "list", data := .seq vs.toArray } := Option.some.inj ((hk a o e).symm.trans at_a)
    have nl : ∀ b u, (fun _ => none : Hp) b = some u → False := fun b u q => by cases q
    exact ⟨fun _ => none, fun _ => Or.inl rfl, Or.inr ⟨_, vs.toArray, _, e, rfl, rfl, rfl, by rw [List.size_toArray, hi.length]; exact few, by simpa using rel⟩, fun b u q => (nl b u q).elim, fun _ _ => rfl, Or.inl rfl⟩
  · have e' : K.lookup a = none := by
      cases q : K.lookup a with
      | none => rfl
      | some o => exact absurd ⟨o, q⟩ e
    refine ⟨fun b => if b = a then some (.frz { cls := .type "list", data := .seq vs.toArray } (.lst (ns.map V.int))) else none, ?_, Or.inl (Or.inr ⟨_, if_pos rfl⟩), ?_, fun b hb => if_neg hb, Or.inr e'⟩
    · intro b
      by_cases hb : b = a
      · right; exact ⟨_, _, if_pos hb⟩
      · left; exact if_neg hb
    · intro b u q
      by_cases hb : b = a
      · subst hb
        simp only [if_pos] at q
        cases q
        exact ⟨at_a, by rw [List.length_map]; exact few, vs, _, rel, at_a⟩
      · simp [hb] at q
theorem enter_law {k : Nat} {fa a : Addr} {fd : FuncData} {x : Str} {sp : Sp} {s : Shared} {vs : List Value} {ns : List Int}
    (hk : K.In s.heap) (hn : s.heap.Ns mainGlobals mg) (hb : s.heap.Ns builtinsNs mb) (hbb : ∀ x : Str, x ≠ "__name__" → mb x = bootBuiltins x) (nl : s.heap.NoLimit) (hg : s.gens = #[])
    (at_a : s.heap.get? a = some { cls := .type "list", data := .seq vs.toArray }) (hi : IntsAre vs ns) (few : ns.length ≤ sizeLine) (hr : Room k callerA)
    (F : ∀ base : Heap, K.In base → base.Ns mainGlobals mg → FnG P w K mg base k fa fd [x] sp) (hbind : ∀ (s : Shared) (u : Value), BindsTo s fd ⟨[u], []⟩ [(x, u)])
    (hsp : ∀ H : Hp, Only H → SqL K H a (ns.map V.int) → sp [.ref a] H (fun v _ => v = .bl true) E0) :
    codeAny (model P w) callerA (.call (.ref fa) ⟨[.ref a], []⟩) (fun r s' => r = .ok (.ret (.bool true)) ∧ OldK s.heap s'.heap ∧ s'.os = s.os ∧ AllBare s'.gens) s := by
  obtain ⟨H, En⟩ := Entry.there (P := P) (w := w) hk at_a hi few
  have out : ∀ {b : Addr} {o : Obj}, s.heap.get? b = some o → b ≠ a → (hidT s.heap H).get? b = some o := fun q hne => hidT_get q (En.nope _ hne)
  have dicts : ∀ {b : Addr} {m : Str → Option Value}, s.heap.Ns b m → (hidT s.heap H).Ns b m := by
    rintro b m ⟨o, es, ep, q, d, r⟩
    refine ⟨o, es, ep, out q ?_, d, r⟩
    rintro rfl
    rw [at_a] at q
    cases q
    cases d
  have inK : K.In (hidT s.heap H) := by
    intro b o q
    by_cases hba : b = a
    · subst hba
      rcases En.off with z | z
      · exact hidT_get (hk _ _ q) z
      · rw [z] at q; cases q
    · exact out (hk _ _ q) hba
  have modl : Mod K mg (hidT s.heap H) := {
    kin := inK
    glob := dicts hn
    blt := ⟨mb, dicts hb, hbb⟩
    nolimit := by obtain ⟨mc, z1, z2⟩ := nl; exact ⟨mc, dicts z1, z2⟩ }
  have none_in : ∀ b, b ∈ frs ([] : List Env) → False := fun b z => by
    have z' : b ∈ ([] : List Addr) := z
    cases z'
  have e0 : Env0 P w K mg (hidT s.heap H) callerA [] s H := {
    frames := rfl
    mod := modl
    bs := fun b o q => of_hidT q
    bsz := Nat.le_of_eq (hidT_size _ _)
    funs := trivial
    frf := fun b z => (none_in b z).elim
    hok := En.held
    bare := .of_eq hg }
  apply codeAny_mono ((F _ inK (dicts hn)).go callerA [] s H ⟨[.ref a], []⟩ [.ref a] [.ref a] _ rfl hr e0 (hbind s (.ref a)) (.cons rfl .nil) (hsp H En.only En.seq))
  intro r s' z
  match r, z with
  | .error _, z => exact False.elim z
  | .ok .next, z => exact False.elim z
  | .ok .brk, z => exact False.elim z
  | .ok .cont, z => exact False.elim z
  | .ok (.ret u), z =>
    obtain ⟨v, H', os, bare, un, held, rv, rfl⟩ := z
    cases rv
    refine ⟨rfl, OldK.of_keep ?_, os, bare⟩
    intro b o q
    rcases En.only b with y | ⟨ob, xs, y⟩
    · exact un.keep b o q y (none_in b) (by intro y2; cases y2)
    · have y1 := (En.held b _ y).left
      have y2 := (held b _ (un.frzs b ob _ y)).left
      rw [y1] at q
      cases q
      exact y2
end

/-- the goal that k_head leaves, from the law's promise -/
theorem walkG {l : PySem.W.OpenLaw} {n k : Nat} {q : Program} {loose : List Str} {XP : (Str → Option Value) → Heap → Prop} {YP : World → Heap → Prop} {d : DefRec} {K : Params → PySem.W.Frag} {sp : PySem.W.Frag → Sp} {x : Str}
    (hn : l.most = some n) (few : n ≤ sizeLine) (hdf : d.params.defaults = []) (hr : Room k callerA) (hY : ∀ (w : World) (h : Heap), YP w h → (K w.params).In h)
    (F : ∀ (w : World) (mg : Str → Option Value) (fa : Addr) (h : Heap), (K w.params).In h → h.Ns mainGlobals mg → mg d.name = some (.ref fa) →
      ∃ fd : FuncData, (∀ (s : Shared) (u : Value), BindsTo s fd ⟨[u], []⟩ [(x, u)]) ∧ ∀ base : Heap, (K w.params).In base → base.Ns mainGlobals mg → FnG l.prog w (K w.params) mg base k fa fd [x] (sp (K w.params)))
    (hsp : ∀ (K : PySem.W.Frag) (H : Hp) (a : Addr) (ns : List Int), ns.length ≤ n → SqL K H a (ns.map V.int) → sp K [.ref a] H (fun v _ => v = .bl true) E0) :
    PySem.W.WalkO q loose XP YP l.row.toRowW d [] (fun f vs => PySem.call f vs) := by
  apply Att.attach_call hn hdf
  intro w s0 s1 mg mb fa o pm cd doc a vs ns G Y ho hd hcd hmg hobj hints hlen hg
  obtain ⟨fd, hb, hF⟩ := F w mg fa _ (hY w _ Y) G.T.g hmg
  exact enter_law (hY w _ Y) G.T.g G.T.b G.T.builtins G.T.nolimit hg hobj hints (Nat.le_trans hlen few) hr hF hb (fun H _ hS => hsp _ H a ns hlen hS)
end Pg

/-! len(set(names)) for texts, a text times a number. -/
namespace Pg
open PySem PySem.Spec PyProof.Rows L2

/-- how many different texts there are: each counted where it stands first -/
def cntS : List Str → Nat
  | [] => 0
  | x :: r => (if x ∈ r then 0 else 1) + cntS r
theorem cntS_le : ∀ l : List Str, cntS l ≤ l.length
  | [] => Nat.le_refl 0
  | x :: r => by
    have h := cntS_le r
    show (if x ∈ r then 0 else 1) + cntS r ≤ r.length + 1
    split <;> omega
theorem cntS_full : ∀ l : List Str, cntS l = l.length ↔ l.Nodup
  | [] => by simp [cntS]
  | x :: r => by
    have h := cntS_full r
    have h1 := cntS_le r
    rw [List.nodup_cons, ← h]
    show (if x ∈ r then 0 else 1) + cntS r = r.length + 1 ↔ _
    split
    · rename_i m
      constructor
      · intro z; omega
      · intro z; exact absurd m z.1
    · rename_i m
      constructor
      · intro z; exact ⟨m, by omega⟩
      · intro z; omega
theorem cntS_snoc : ∀ (l : List Str) (x : Str), cntS (l ++ [x]) = if x ∈ l then cntS l else cntS l + 1
  | [], x => by simp [cntS]
  | y :: r, x => by
    have ih := cntS_snoc r x
    show (if y ∈ r ++ [x] then 0 else 1) + cntS (r ++ [x]) = if x ∈ y :: r then (if y ∈ r then 0 else 1) + cntS r else (if y ∈ r then 0 else 1) + cntS r + 1
    rw [ih]
    by_cases e : x = y
    · subst e
      by_cases m : x ∈ r <;> simp [m] <;> omega
    · have e' : ¬ y = x := fun z => e z.symm
      by_cases m : x ∈ r <;> by_cases m2 : y ∈ r <;> simp [m, m2, e, e'] <;> omega

section
variable {prog : Program} {w : World} {A : Around} {R : Result → Shared → Prop}
theorem setOf_moved {h h' : Heap} {S : Addr} {g : Str → Bool} {c : Nat} (z : h.SetOf (PySem.strKind prog w) S g c) (kp : ∀ o, h.get? S = some o → h'.get? S = some o) : h'.SetOf (PySem.strKind prog w) S g c := by
  obtain ⟨o, es, ep, tb, ho, more⟩ := z
  exact ⟨o, es, ep, tb, kp o ho, more⟩
/-- the loop of set.update over texts -/
theorem set_texts_loop {I : Addr} {fp wr : List Addr} {G : Array GenState → Array GenState → Prop} {n : Nat} {Pv : Nat → Value → Prop} {St : Nat → Shared → Prop}
    (W : WalksS prog w A.in1 I fp wr G n Pv St) (S : Addr) (off : S ∉ fp) (xs : List Str) (hn : n = xs.length) (room : xs.length + 1 < scanBound)
    (vals : ∀ i v, Pv i v → ∃ x t, xs[i]? = some x ∧ v = .str x t) :
    ∀ (left i : Nat) (s : Shared), i + left = n → St i s → s.heap.SetOf (PySem.strKind prog w) S (fun x => decide (x ∈ xs.take i)) (cntS (xs.take i)) →
      (∀ s', Moved (S :: wr) G s s' → s'.heap.SetOf (PySem.strKind prog w) S (fun x => decide (x ∈ xs)) (cntS xs) → R (.ok (.ret .none)) s') →
      codeAny (model prog w) A (.builtin "set.update.loop" ⟨[.ref S, .ref I], []⟩) R s := by
  have offw : S ∉ wr := fun z => off (W.sub _ z)
  have sub : ∀ b ∈ wr, b ∈ S :: wr := fun b z => List.mem_cons_of_mem _ z
  intro left
  induction left with
  | zero =>
    intro i s e st set fin
    obtain rfl : i = n := by omega
    apply codeAny_builtin PyProof.Rows.F.entry_set_update_loop
    rw [Around.under_plainId PyProof.Rows.F.plain_set_update_loop _]
    show wpAny _ A.in1 (pyNext (.ref I) >>= _) _ _ s
    apply wpAny_bind
    apply W.done s _ _ st
    intro s' mv
    have all : xs.take i = xs := List.take_of_length_le (by omega)
    rw [all] at set
    show wpAny _ A.in1 (ret Value.none) _ _ s'
    exact wpAny_pure (fin s' (mv.mono sub) (setOf_moved set fun o q => mv.heap S o offw q))
  | succ left ih =>
    intro i s e st set fin
    have lt : i < n := by omega
    apply codeAny_builtin PyProof.Rows.F.entry_set_update_loop
    rw [Around.under_plainId PyProof.Rows.F.plain_set_update_loop _]
    show wpAny _ A.in1 (pyNext (.ref I) >>= _) _ _ s
    apply wpAny_bind
    apply W.item i s _ _ lt st
    intro v s' pv' st' mv
    obtain ⟨x, t, hx, rfl⟩ := vals i v pv'
    have set' := setOf_moved set fun o q => mv.heap S o offw q
    show wpAny _ A.in1 (holding [Value.str x t] (setAdd S (.str x t)) >>= _) _ _ s'
    apply wpAny_bind
    apply wpAny_holding
    unfold setAdd
    apply wpAny_holding
    apply wpAny_bind
    apply (PySem.strKind prog w).pyHash (k := x) (strKind_is _ _ _ _)
    have cle := cntS_le (xs.take i)
    rw [List.length_take] at cle
    apply wpAny_setAddHashed_of (knd := PySem.strKind prog w) (s := { s' with toks := s'.toks + 1 }) (strKind_is _ _ _ _) rfl set' (by omega)
    intro h' but set2
    have nx : xs.take (i + 1) = xs.take i ++ [x] := by
      rw [List.take_add_one, hx]
      rfl
    have set3 : h'.SetOf (PySem.strKind prog w) S (fun y => decide (y ∈ xs.take (i + 1))) (cntS (xs.take (i + 1))) := by
      refine PyProof.Rows.SetOf_congr set2 (fun y => ?_) ?_
      · rw [nx]
        simp [List.mem_append]
      · rw [nx, cntS_snoc]
        by_cases m : x ∈ xs.take i <;> simp [m]
    apply wpAny_pure
    refine ⟨plainId_quiet PyProof.Rows.F.plain_set_update_loop _, ih (i + 1) _ (by omega) ?_ set3 ?_⟩
    · apply W.frame _ s' _ _ st' (Nat.le_succ _)
      intro b hb o q
      have : b ≠ S := fun z => off (z ▸ hb)
      rw [but.2 b this]
      exact q
    · intro s2 mv2 z
      apply fin s2 _ z
      apply Moved.trans W.gtrans _ mv2
      apply (mv.mono sub).then_heap (Nat.le_succ _)
      intro b o hb q
      have : b ≠ S := fun z => hb (z ▸ List.mem_cons_self)
      rw [but.2 b this]
      exact q
end

set_option maxHeartbeats 8000000 in
/-- set(t), t a tuple of texts -/
theorem set_of_texts {prog : Program} {w : World} {A : Around} {E : Value → Shared → Prop} {s : Shared} {l : Addr} {items : Array Value} {xs : List Str} {Q : Value → Shared → Prop}
    (hot : A.handled = none) (tup : s.heap.IsTuple l items) (are : StrsAre items.toList xs) (room : xs.length + 1 < scanBound)
    (k : ∀ (h' : Heap) (tk : Nat), h'.SetOf (PySem.strKind prog w) s.heap.objs.size (fun x => decide (x ∈ xs)) (cntS xs) → (∀ b o, s.heap.get? b = some o → h'.get? b = some o) →
      Q (.ref s.heap.objs.size) { s with heap := h', toks := tk }) : wpAny (model prog w) A (call (.type "set") [.ref l]) Q E s := by
  have size : items.size = xs.length := by
    have z := StrsAre.len_eq are
    rw [Array.length_toList] at z
    exact z.symm ▸ rfl
  obtain ⟨_, _, mro⟩ := PySem.F.called_set.mro
  have made := PySem.F.called_set.made
  have sub := PySem.F.called_set.sub
  apply wpAny_call
  apply codeAny_of_tree
  show wpAny _ _ (callAny (.type "set") _) _ _ _
  apply wpAny_pure
  refine And.intro (Code.quiet_builtin _ (by decide +kernel)) ?_
  apply codeAny_builtin PySem.F.entry_type_call
  rw [Around.under_plain (weight_type_call_type "set" [.ref l] []) rfl]
  have t1 := PySem.F.called_set.notType
  have t2 := PySem.F.called_set.canCreate
  have t3 := PySem.F.typeCall_set_1 (.ref l)
  repeat (any_goals (first | assumption | wp_step))
  apply codeAny_mono (code_set_new_1 (.ref l) (E := E) (Q₁ := fun obj s1 => ∃ led : Bool, obj = .ref s.heap.objs.size ∧ s1 = { s with heap := s.heap.push { cls := .type "set", dict := none, data := .set #[] 0 (.fresh 0 0 led) } }) fun led => ⟨led, rfl, rfl⟩)
  intro r s1 hr
  match r, hr with
  | .error _, hr => exact hr
  | .ok .next, hr => exact hr.elim
  | .ok .brk, hr => exact hr.elim
  | .ok .cont, hr => exact hr.elim
  | .ok (.ret obj), hr =>
    obtain ⟨led, rfl, rfl⟩ := hr
    let so : Obj := { cls := .type "set", dict := none, data := .set #[] 0 (.fresh 0 0 led) }
    have here : (s.heap.push so).get? s.heap.objs.size = some so := Heap.get?_push_size _ rfl
    have typ : Shared.TypeIs { s with heap := s.heap.push so } (.ref s.heap.objs.size) "set" := ⟨_, here, rfl⟩
    have i1 := PySem.F.called_set.init.lookup
    have i2 := PySem.F.called_set.init.bind (.ref s.heap.objs.size)
    repeat (any_goals (first | assumption | wp_step))
    apply codeAny_mono (codeAny_call_builtin (R := wants (fun r s2 => r = .none ∧ ∃ h' tk, s2 = { s with heap := h', toks := tk } ∧
      h'.SetOf (PySem.strKind prog w) s.heap.objs.size (fun x => decide (x ∈ xs)) (cntS xs) ∧ (∀ b o, s.heap.get? b = some o → h'.get? b = some o)) E)
      PySem.F.called_set.init.plain PySem.F.entry_set_init (check_set_init_1 typ ?_))
    · intro r2 s2 hr2
      match r2, hr2 with
      | .error _, hr2 => exact hr2
      | .ok .next, hr2 => exact hr2.elim
      | .ok .brk, hr2 => exact hr2.elim
      | .ok .cont, hr2 => exact hr2.elim
      | .ok (.ret v2), hr2 =>
        obtain ⟨rfl, h', tk, rfl, set, kp⟩ := hr2
        repeat (any_goals (first | assumption | wp_step))
        exact k _ _ set kp
    · obtain ⟨⟨oc, od, oda, osl⟩, at_l, cl, nl, dl⟩ := tup
      simp only at cl dl
      subst cl
      subst dl
      have at_l2 : (s.heap.push so).get? l = some { cls := .type "tuple", dict := od, data := .seq items nl, slots := osl } := Heap.get?_push_of_some _ at_l
      have s1 := PySem.F.sub_tuple_set
      have s2 := PySem.F.sub_tuple_frozenset
      have ne : (Value.type "tuple" == Value.type "dict") = false := by decide
      have tup2 : (s.heap.push so).IsTuple l items := ⟨_, at_l2, rfl, nl, rfl⟩
      unfold Builtin.«set.__init__» noKeywords Builtin.Frozenset.updateFrom
      generalize hPI : pyIter = PI
      wp_walk
      subst hPI
      apply wpAny_pyIter_tuple tup2
      apply wpAny_bind
      apply wpAny_runValue
      have lt : l < s.heap.objs.size := Heap.lt_size at_l
      have sz : (s.heap.push so).objs.size = s.heap.objs.size + 1 := Heap.size_push ..
      have ne1 : l ≠ (s.heap.push so).objs.size := by rw [sz]; exact Nat.ne_of_lt (Nat.lt_succ_of_lt lt)
      have off : s.heap.objs.size ∉ [(s.heap.push so).objs.size, l] := by
        rw [sz]
        intro z
        rcases List.mem_cons.mp z with z | z
        · exact Nat.ne_of_lt (Nat.lt_succ_self _) z
        · rcases List.mem_cons.mp z with z | z
          · exact Nat.ne_of_gt lt z
          · cases z
      have hot3 : A.in1.in1.in1.handled = none := by simp [hot]
      apply set_texts_loop ((Walks.tuple hot3 _ l ne1 items).toS) s.heap.objs.size off xs size room ?vals items.size 0 _ (by omega) ⟨⟨_, Heap.get?_push_size _ rfl, rfl, rfl⟩, (tup2.push _)⟩ ?s0 ?fin
      case vals =>
        intro i v hv
        have hi : i < xs.length := by rw [← size]; exact (Array.getElem?_eq_some_iff.mp hv).1
        obtain ⟨t, e⟩ := SS.strs_at are i v (by rw [Array.getElem?_toList]; exact hv)
        refine ⟨xs[i], t, List.getElem?_eq_getElem hi, ?_⟩
        rw [e, List.getD_eq_getElem?_getD, List.getElem?_eq_getElem hi]
        rfl
      case s0 =>
        have here2 : ((s.heap.push so).push { cls := .type "tuple_iterator", data := .fields #[.ref l, .int 0 0] }).get? s.heap.objs.size = some so := Heap.get?_push_of_some _ here
        exact PyProof.Rows.SetOf_congr ((PyProof.Rows.setObjOf_fresh (knd := PySem.strKind prog w) led).setOf here2 (by unfold scanBound; omega)) (fun _ => rfl) rfl
      case fin =>
        intro s' mv set
        obtain ⟨h', g', d', tk', os'⟩ := s'
        obtain rfl : g' = s.gens := mv.gens
        obtain rfl : d' = s.drawn := mv.drawn
        obtain rfl : os' = s.os := mv.os
        show wpAny _ _ _ _ _ _
        apply wpAny_pure
        show wpAny _ _ (ret Value.none) _ _ _
        apply wpAny_pure
        refine ⟨rfl, h', tk', rfl, set, ?_⟩
        intro b o q
        have lb : b < s.heap.objs.size := Heap.lt_size q
        apply mv.heap b o _ (Heap.get?_push_of_some _ (Heap.get?_push_of_some _ q))
        intro z
        rcases List.mem_cons.mp z with z | z
        · exact Nat.ne_of_lt lb z
        · rcases List.mem_cons.mp z with z | z
          · rw [sz] at z
            exact Nat.ne_of_lt (Nat.lt_succ_of_lt lb) z
          · cases z

/-- len(set(t)), t a tuple of texts -/
def tCountT (K : PySem.W.Frag) (ta : TE) : TE := fun σ H Q => ta σ H fun x H1 => ∃ (l : Addr) (xs : List Str), x = .ref l ∧ SqT K H1 l (xs.map V.str) ∧ xs.length ≤ 1000 ∧ Q (.int (cntS xs : Nat)) H1
theorem pe_countT {X : Cx} {a : Expr} {ta : TE} {p p2 q pos : Pos} (hc : X.calm = true) (hg : Gl X "len") (hm : X.mg "len" = none) (hg2 : Gl X "set") (hm2 : X.mg "set" = none) (ha : PE X a ta)
    (na : starEach [a] X.env = (false, eval a X.env) :: starEach [] X.env := by rfl) : PE X (.Call (.Name "len" p) [.Call (.Name "set" p2) [a] [] q] [] pos) (tCountT X.K ta) := by
  constructor
  intro pins s σ H Q I h
  apply Call_ (ld_blt I hg hm boot_len ?_)
  apply PyProof.Rows.callWith_builtin1 (PyProof.Rows.args_cons ?_ rfl) rfl rfl
  apply Call_ (ld_blt I hg2 hm2 boot_set ?_)
  apply PyProof.Rows.callWith_type1 (PyProof.Rows.args_cons (thn (ha.run pins s σ H _ I h) ?_) na) na rfl
  rintro v s1 ⟨x, H1, I1, r1, l, xs, rfl, ht, few, z⟩
  apply PyProof.Rows.args_nil
  cases r1
  obtain ⟨its, r, tp, _⟩ := I1.tuple ht
  apply set_of_texts (I1.ok.hd hc) tp (by simpa using strsAre_of r) (by unfold scanBound; omega)
  intro h' tk set kp
  apply PyProof.Rows.args_nil
  obtain ⟨o, es, ep, tb, ho, ex, od, _, _, _, fl, nn⟩ := set
  have I2 : Inv X pins σ H1 { s1 with heap := h', toks := tk } := I1.kept kp
  have le := cntS_le xs
  apply call_len_set ho ex od fl (by rw [nn]; omega)
  exact ⟨.int (cntS xs : Nat), H1, I2.tok _, ⟨_, by rw [nn]⟩, z⟩
end Pg

/-! Loops over texts, products of texts, what the laws' helpers promise. -/
namespace Pg
open PySem PySem.Spec PyProof.Rows L2

/-! ### loops and comprehensions over a text -/
theorem for_str {z : Str} {g : TG} {tb : TS} {D : Ends} {σ : L2.St} {H : Hp} (Pv : Nat → L2.St → Hp → Prop) (h0 : Pv 0 σ H)
    (hs : ∀ i c σ H, z.cps.toList[i]? = some c → Pv i σ H → g (.str ⟨#[c]⟩) σ H fun σ2 H2 => tb { D with nx := Pv (i + 1), ct := Pv (i + 1), bk := D.nx } σ2 H2) (hd : ∀ σ H, Pv z.length σ H → D.nx σ H) :
    ∃ W : Nat → Nat → L2.St → Hp → Prop, (∃ m, W 0 m σ H) ∧ ∀ i m σ H, W i m σ H →
      ((Its z).stop i H ∧ D.nx σ H) ∨ ((Its z).go i H ∧ ∃ N : L2.St → Hp → Prop, (∀ σ' H', N σ' H' → ∃ m', m' < m ∧ W (i + 1) m' σ' H') ∧ ∀ x H', (Its z).yld i H x H' → g x σ H' fun σ2 H2 => tb { D with nx := N, ct := N, bk := D.nx } σ2 H2) := by
  refine ⟨fun i m σ H => i + m = z.length ∧ Pv i σ H, ⟨z.length, by omega, h0⟩, ?_⟩
  rintro i m σ H ⟨e, p⟩
  by_cases lt : i < z.length
  · refine Or.inr ⟨lt, Pv (i + 1), fun σ' H' q => ⟨m - 1, by omega, by omega, q⟩, ?_⟩
    rintro x H' ⟨rfl, c, hc, rfl⟩
    exact hs i c σ _ (by rw [Array.getElem?_toList]; exact hc) p
  · obtain rfl : i = z.length := by omega
    exact Or.inl ⟨Nat.le_refl _, hd σ H p⟩
theorem lc_str {z : Str} {g : TG} {tt : TT} {te : TE} {vs : List Nat} {σ : L2.St} {H1 : Hp} {D : Addr} {Qd : Hp → Prop} (Pv : Nat → Hp → Prop) (h0 : Pv 0 (upd H1 D (.lst [])))
    (hs : ∀ i c H, z.cps.toList[i]? = some c → Pv i H → g (.str ⟨#[c]⟩) (wipe σ vs) H fun σ2 H2 => wipe σ2 vs = wipe σ vs ∧ tt σ2 H2 fun b H3 =>
      if b = true then te σ2 H3 fun y H4 => ∃ acc, H4 D = some (.lst acc) ∧ acc.length < sizeLine ∧ Pv (i + 1) (upd H4 D (.lst (acc ++ [y]))) else Pv (i + 1) H3) (hd : ∀ H, Pv z.length H → Qd H) :
    ∃ W : Nat → Nat → Hp → Prop, (∃ m, W 0 m (upd H1 D (.lst []))) ∧ ∀ i m H, W i m H →
      ((Its z).stop i H ∧ Qd H) ∨ ((Its z).go i H ∧ ∃ Nx : Hp → Prop, (∀ H', Nx H' → ∃ m', m' < m ∧ W (i + 1) m' H') ∧ ∀ x H', (Its z).yld i H x H' → g x (wipe σ vs) H' fun σ2 H2 => wipe σ2 vs = wipe σ vs ∧ tt σ2 H2 fun b H3 =>
        if b = true then te σ2 H3 fun y H4 => ∃ acc, H4 D = some (.lst acc) ∧ acc.length < sizeLine ∧ Nx (upd H4 D (.lst (acc ++ [y]))) else Nx H3) := by
  refine ⟨fun i m H => i + m = z.length ∧ Pv i H, ⟨z.length, by omega, h0⟩, ?_⟩
  rintro i m H ⟨e, p⟩
  by_cases lt : i < z.length
  · refine Or.inr ⟨lt, Pv (i + 1), fun H' q => ⟨m - 1, by omega, by omega, q⟩, ?_⟩
    rintro x H' ⟨rfl, c, hc, rfl⟩
    exact hs i c _ (by rw [Array.getElem?_toList]; exact hc) p
  · obtain rfl : i = z.length := by omega
    exact Or.inl ⟨Nat.le_refl _, hd H p⟩

/-! ### a module's number -/
theorem pe_cI {X : Cx} {x : Str} {i : Int} {pos : Pos} (hg : Gl X x) (hm : ∃ t, X.mg x = some (.int i t)) (hd : (x == ("__debug__" : Str)) = false := by decide) : PE X (.Name x pos) (tC (.int i)) := by
  obtain ⟨t, e⟩ := hm
  exact pe_glob hg e ⟨t, rfl⟩ hd

/-! ### a text times a number -/
def repS (z : Str) (n : Nat) : Str := ⟨((List.replicate n z.cps.toList).flatten).toArray⟩
theorem foldl_app : ∀ (l : List (Array Nat)) (a : Array Nat), (l.foldl (· ++ ·) a).toList = a.toList ++ (l.map Array.toList).flatten
  | [], a => by simp
  | x :: r, a => by
    rw [List.foldl_cons, foldl_app r (a ++ x)]
    simp
theorem op_mulS {X : Cx} : OpR X (binaryOp .Mult) (fun x y H Q => ∃ (z : Str) (n : Nat), x = .str z ∧ y = .int n ∧ n ≤ 1000 ∧ z.length ≤ 1000 ∧ Q (.str (repS z n)) H) := by
  intro pins s σ H x y v u Q I rx ry h
  obtain ⟨z, n, rfl, rfl, n1, z1, q⟩ := h
  obtain ⟨t, rfl⟩ := rx
  obtain ⟨t', rfl⟩ := ry
  have fin : ∀ (g : Str) (u : Tok) (k : Nat), g = repS z n → EP X pins σ Q (.str g u) { s with toks := k } := by
    rintro g u k rfl
    exact ⟨.str (repS z n), H, I.tok _, ⟨u, rfl⟩, q⟩
  have big : (z.length : Int) ≤ 1000 := by omega
  have lenz : z.length = z.cps.toList.length := by simp [Str.length]
  apply PySem.P.mul_str
  · have h1 : ¬ ((n : Int) < -(2 ^ 63 : Int)) := by omega
    have h2 : ¬ ((n : Int) ≥ 2 ^ 63) := by omega
    rw [decide_eq_false h1, decide_eq_false h2]
    rfl
  · intro n0 _
    have pos : (0 : Int) < n := by omega
    have : (1000 : Int) ≤ (2 ^ 63 - 1) / n := (Int.le_ediv_iff_mul_le pos).mpr (by have : (n : Int) ≤ 1000 := by omega
                                                                                   omega)
    omega
  · intro n0 _
    have h2 : z.length * n ≤ 1000 * 1000 := Nat.mul_le_mul z1 n1
    have hl : sizeLine = 16777216 := sizeLine_eq
    show decide (z.length * ((n : Int)).toNat > sizeLine) = false
    rw [Int.toNat_natCast, hl]
    exact decide_eq_false (by omega)
  · by_cases h0 : (n : Int) < 1
    · rw [if_pos h0]
      have e : n = 0 := by omega
      subst e
      exact ⟨by decide, fin _ _ _ (Str.ext' (by simp [repS, Str.empty]))⟩
    · rw [if_neg h0]
      by_cases h1 : ((n : Int) == 1 || z.length == 0) = true
      · rw [if_pos h1]
        rcases Bool.or_eq_true_iff.mp h1 with e | e
        · have e1 : n = 1 := by have := eq_of_beq e; omega
          subst e1
          refine fin z t s.toks (Str.ext' ?_)
          simp [repS]
        · have e1 : z.cps.toList = [] := List.eq_nil_of_length_eq_zero (by rw [← lenz]; exact eq_of_beq e)
          refine fin z t s.toks (Str.ext' ?_)
          apply Array.toList_inj.mp
          rw [e1]
          simp [repS, e1]
      · rw [if_neg h1]
        have eq : (⟨(List.replicate ((n : Int)).toNat z.cps).foldl (· ++ ·) #[]⟩ : Str) = repS z n := by
          apply Str.ext'
          apply Array.toList_inj.mp
          rw [foldl_app, Int.toNat_natCast]
          simp [repS]
        rw [eq]
        refine ⟨?_, fin _ _ _ rfl⟩
        have hl : sizeLine = 16777216 := sizeLine_eq
        have : (repS z n).length = n * z.length := by simp [repS, Str.length]
        rw [this, hl]
        have h2 : n * z.length ≤ 1000 * 1000 := Nat.mul_le_mul n1 z1
        omega
end Pg
namespace Pg
open PySem PySem.Spec PyProof.Rows L2
/-- within a comprehension: the written part is the def's own -/
theorem ix_listK {X : Cx} {K : PySem.W.Frag} (h : X.K = K) : IxR X (rIxL K) := h ▸ ix_list
theorem ix_tupK {X : Cx} {K : PySem.W.Frag} (h : X.K = K) : IxR X (rIxT K) := h ▸ ix_tup
end Pg

/-! A walk over the items of a written dict of the module. -/
namespace Pg
open PySem PySem.Spec PyProof.Rows L2

/-- the entries of a written dict, as values -/
def Entries (es : Array DictEntry) (kvs : List (V × V)) : Prop := kvs.length = es.size ∧ ∀ (i : Nat) (hi : i < es.size), ∃ k v, kvs[i]? = some (k, v) ∧ RelV k es[i].key ∧ RelV v es[i].val
theorem entries3 {e0 e1 e2 : DictEntry} {k0 v0 k1 v1 k2 v2 : V} (a0 : RelV k0 e0.key) (b0 : RelV v0 e0.val) (a1 : RelV k1 e1.key) (b1 : RelV v1 e1.val) (a2 : RelV k2 e2.key) (b2 : RelV v2 e2.val) :
    Entries #[e0, e1, e2] [(k0, v0), (k1, v1), (k2, v2)] :=
  ⟨rfl, fun i hi => match i, hi with
    | 0, _ => ⟨_, _, rfl, a0, b0⟩
    | 1, _ => ⟨_, _, rfl, a1, b1⟩
    | 2, _ => ⟨_, _, rfl, a2, b2⟩
    | n + 3, hi => absurd hi (by show ¬ (n + 3 < 3); omega)⟩
/-- its items, each a new tuple -/
def ItW (kvs : List (V × V)) : It :=
  ⟨fun i _ => i < kvs.length, fun i H x H' => ∃ T k v, kvs[i]? = some (k, v) ∧ x = .ref T ∧ H T = none ∧ H' = upd H T (.tup [k, v]), fun i _ => kvs.length ≤ i⟩
theorem raw_of {K : PySem.W.Frag} {h : Heap} {d : Addr} {es : Array DictEntry} {n : Nat} (inK : K.In h) (e : K.lookup d = some ⟨.type "dict", none, .dict es n, #[]⟩) : h.DictRaw d es n :=
  ⟨_, inK _ _ e, ⟨rfl, rfl, rfl⟩, rfl⟩
theorem turn_itemsW {P : Program} {w : World} {K : PySem.W.Frag} {d : Addr} {es : Array DictEntry} {n : Nat} {kvs : List (V × V)} {elts : List Expr} {kk : Nat} {tpos : Pos} (it : Addr)
    (at_d : K.lookup d = some ⟨.type "dict", none, .dict es n, #[]⟩) (en : Entries es kvs) : Turn P w K (.Tuple elts kk tpos) (ItW kvs) [it] it (fun i h => ∃ ok ov, IsItemIter h it d i es.size n ok ov) := by
  constructor
  case mem => simp
  case obj =>
    rintro i h ⟨ok, ov, e⟩ b hb
    obtain rfl : b = it := by simpa using hb
    exact ⟨_, e, fun v z => nomatch z⟩
  case keep =>
    rintro i h h' ⟨ok, ov, e⟩ k
    exact ⟨ok, ov, k it (by simp) _ e⟩
  case item =>
    intro X hP hw hK hc i pins s σ H E I hf st hg
    subst hP hw hK
    obtain ⟨ok, ov, he⟩ := st
    have lt : it < s.heap.objs.size := Heap.lt_size he
    have hi : i < es.size := by rw [← en.1]; exact hg
    obtain ⟨k, v, hkv, rk, rv⟩ := en.2 i hi
    apply wpAny_pyNext_items_item_raw he (raw_of I.kIn at_d) hi
    intro h' out here size kp
    refine ⟨_, rfl, ?_⟩
    apply wpAny_letOwnedTupleGo_items (s := { s with heap := h' }) out
    intro h2 back but
    have here2 : h2.get? s.heap.objs.size = some { cls := .type "tuple", data := .seq #[es[i].key, es[i].val] } := (but.2 _ (Nat.ne_of_gt lt)).trans here
    have fresh : H s.heap.objs.size = none := I.hok.fresh (Nat.le_refl _)
    have new : ObjOk X.prog X.w (upd H s.heap.objs.size (.tup [k, v])) h2 s.heap.objs.size (.tup [k, v]) :=
      ⟨by show 2 ≤ sizeLine; decide, [es[i].key, es[i].val], .cons rk (.cons rv .nil), ⟨_, here2, rfl, _, rfl⟩⟩
    have J := I.turnedNew (t' := s.toks) (h' := h2) (ch := [it]) (fun b o hb e => (but.2 b (by simpa using hb)).trans (kp b o (by simpa using hb) e)) hf (Nat.le_refl _) new
    refine ⟨.ref s.heap.objs.size, _, J, rfl, ⟨_, k, v, hkv, rfl, fresh, rfl⟩, ⟨_, _, back⟩, ?_⟩
    intro b hb
    obtain rfl : b = it := by simpa using hb
    rw [upd_ne (Nat.ne_of_lt lt)]
    exact (hf b (by simp)).1
  case done =>
    intro X hP hw hK hc i pins s σ H E I hf st hg
    subst hP hw hK
    obtain ⟨ok, ov, he⟩ := st
    obtain ⟨f0, f1, f2, f3, f4, f5⟩ := hf it (by simp)
    apply wpAny_pyNext_items_end_raw (I.ok.hd hc) he (raw_of I.kIn at_d) (by rw [← en.1]; exact hg)
    intro h' eb
    exact ⟨rfl, I.turned (t' := s.toks) (fun b o hb e => eb b o hb e) f0 f1 f3 f4 f5⟩
  case self =>
    rintro A i s Q E ⟨_, _, e⟩ h
    exact PySem.W.kcp_self e h
/-- for .. in d.items(), d a written dict of the module -/
def iItemsW (K : PySem.W.Frag) (td : TE) : TI := fun σ H R => td σ H fun x H1 => ∃ d es n kvs, x = .ref d ∧ K.lookup d = some ⟨.type "dict", none, .dict es n, #[]⟩ ∧ Entries es kvs ∧ (d == sysModules) = false ∧ R (ItW kvs) H1
theorem pi_itemsW {X : Cx} {e : Expr} {td : TE} {apos cpos : Pos} {elts : List Expr} {kk : Nat} {tpos : Pos} (he : PE X e td) (hbase : attributeBase e "items" X.env (eval e X.env) = eval e X.env := by rfl)
    (hline : (apos.endLine == cpos.line) = true := by rfl) : PI X (.Tuple elts kk tpos) (.Call (.Attribute e "items" apos) [] [] cpos) (iItemsW X.K td) := by
  constructor
  intro pins s σ H R I h
  apply wpAny_Call_method (T := "dict") (id := "dict.items") hbase rfl hline F.plainAttrs_dict F.slot_dict_items F.type_dict_items
  apply thn (he.run pins s σ H _ I h)
  rintro u s1 ⟨x, H1, I1, rx, d, es, n, kvs, rfl, at_d, en, low, q⟩
  obtain rfl : u = Value.ref d := rx
  have raw := raw_of I1.kIn at_d
  refine ⟨raw.typeIs, fun a z => ?_, ?_⟩
  · cases z
    exact ⟨_, I1.kIn _ _ at_d, rfl⟩
  have I2 : Inv X pins σ H1 { s1 with heap := s1.heap.push { cls := .type "dict_items", data := .fields #[.ref d] } } := I1.kept (t' := s1.toks) fun b o z => Heap.get?_push_of_some _ z
  have fin : wpAny (model X.prog X.w) X.A (pyIter (.ref s1.heap.objs.size)) (PIE X pins σ (.Tuple elts kk tpos) R) X.xe { s1 with heap := s1.heap.push { cls := .type "dict_items", data := .fields #[.ref d] } } :=
    wpAny_pyIter_items_raw (d := d) ⟨_, Heap.get?_push_size _ rfl, rfl, rfl⟩ (raw_of I2.kIn at_d)
      (pi_one (tk := s1.toks) I2 _ (turn_itemsW _ at_d en) ⟨.none, .none, Heap.get?_push_size _ rfl⟩ q)
  show wpAny _ _ (callWith cpos (.builtin "dict.items") [.ref d] [] []) _ X.xe s1
  exact method_meetsIn F.slot_dict_items F.entry_dict_items rfl (PySem.evalArgs_none ⟨rfl, raw.typeIs, F.args_dict_items_1 _, _, meets_dict_items_raw d low, ⟨_, _, raw⟩, fin⟩)
theorem for_itemsW {kvs : List (V × V)} {g : TG} {tb : TS} {D : Ends} {σ : L2.St} {H : Hp} (Pv : Nat → L2.St → Hp → Prop) (h0 : Pv 0 σ H)
    (hs : ∀ i k v σ H T, kvs[i]? = some (k, v) → Pv i σ H → H T = none → g (.ref T) σ (upd H T (.tup [k, v])) fun σ2 H2 => tb { D with nx := Pv (i + 1), ct := Pv (i + 1), bk := D.nx } σ2 H2) (hd : ∀ σ H, Pv kvs.length σ H → D.nx σ H) :
    ∃ W : Nat → Nat → L2.St → Hp → Prop, (∃ m, W 0 m σ H) ∧ ∀ i m σ H, W i m σ H →
      ((ItW kvs).stop i H ∧ D.nx σ H) ∨ ((ItW kvs).go i H ∧ ∃ N : L2.St → Hp → Prop, (∀ σ' H', N σ' H' → ∃ m', m' < m ∧ W (i + 1) m' σ' H') ∧ ∀ x H', (ItW kvs).yld i H x H' → g x σ H' fun σ2 H2 => tb { D with nx := N, ct := N, bk := D.nx } σ2 H2) := by
  refine ⟨fun i m σ H => i + m = kvs.length ∧ Pv i σ H, ⟨kvs.length, by omega, h0⟩, ?_⟩
  rintro i m σ H ⟨e, p⟩
  by_cases lt : i < kvs.length
  · refine Or.inr ⟨lt, Pv (i + 1), fun σ' H' q => ⟨m - 1, by omega, by omega, q⟩, ?_⟩
    rintro x H' ⟨T, k, v, hkv, rfl, nT, rfl⟩
    exact hs i k v σ H T hkv p nT
  · obtain rfl : i = kvs.length := by omega
    exact Or.inl ⟨Nat.le_refl _, hd σ H p⟩
end Pg

/-! Segments of a text: the mathematics. -/
namespace Pg
open PySem PySem.Spec PyProof.Rows L2

abbrev cd (z : Str) : List Nat := z.cps.toList
theorem cd_len (z : Str) : z.length = (cd z).length := by simp [Str.length]
theorem cd_inj {x y : Str} (h : cd x = cd y) : x = y := Str.ext' (Array.toList_inj.mp h)
theorem cd_app (x y : Str) : cd (x ++ y) = cd x ++ cd y := by
  show (x.cps ++ y.cps).toList = _
  rw [Array.toList_append]
/-- the signs from a to b -/
def sub (t : Str) (a b : Nat) : Str := ⟨(((cd t).drop a).take (b - a)).toArray⟩
theorem cd_sub (t : Str) (a b : Nat) : cd (sub t a b) = ((cd t).drop a).take (b - a) := rfl
theorem cut_sub (t : Str) (a b : Nat) : cutS t (some (a : Int)) (some (b : Int)) = sub t a b := by
  apply cd_inj
  unfold cutS
  rw [show HT.sIx t.length 0 (some (a : Int)) = min a t.length from HT.sIx_nat t.length 0 a, show HT.sIx t.length t.length (some (b : Int)) = min b t.length from HT.sIx_nat t.length t.length b, cd_len]
  show List.take (min b (cd t).length - min a (cd t).length) (List.drop (min a (cd t).length) (cd t)) = List.take (b - a) (List.drop a (cd t))
  by_cases h : a ≤ (cd t).length
  · rw [Nat.min_eq_left h, List.take_eq_take_iff, List.length_drop]
    omega
  · have h1 : (cd t).length ≤ a := by omega
    rw [Nat.min_eq_right h1, List.drop_of_length_le h1, List.drop_of_length_le (Nat.le_refl _), List.take_nil, List.take_nil]
theorem cut_from (t : Str) (a : Nat) : cutS t (some (a : Int)) none = sub t a t.length := by
  apply cd_inj
  unfold cutS
  rw [show HT.sIx t.length 0 (some (a : Int)) = min a t.length from HT.sIx_nat t.length 0 a, HT.sIx_none, cd_len]
  show List.take ((cd t).length - min a (cd t).length) (List.drop (min a (cd t).length) (cd t)) = List.take (t.length - a) (List.drop a (cd t))
  rw [cd_len]
  by_cases h : a ≤ (cd t).length
  · rw [Nat.min_eq_left h]
  · have h1 : (cd t).length ≤ a := by omega
    rw [Nat.min_eq_right h1, List.drop_of_length_le h1, List.drop_of_length_le (Nat.le_refl _), List.take_nil, List.take_nil]
theorem sub_len {t : Str} {a b : Nat} (h : b ≤ t.length) : (sub t a b).length = b - a := by
  rw [cd_len, cd_sub, List.length_take, List.length_drop, ← cd_len]
  omega
theorem sub_self (t : Str) (a : Nat) : sub t a a = ⟨#[]⟩ := by
  apply cd_inj
  rw [cd_sub, Nat.sub_self, List.take_zero]
theorem sub_full (t : Str) : sub t 0 t.length = t := by
  apply cd_inj
  rw [cd_sub, List.drop_zero, Nat.sub_zero, cd_len, List.take_length]
theorem sub_join {t : Str} {a b c : Nat} (h1 : a ≤ b) (h2 : b ≤ c) : sub t a b ++ sub t b c = sub t a c := by
  apply cd_inj
  rw [cd_app, cd_sub, cd_sub, cd_sub]
  have e : (cd t).drop b = ((cd t).drop a).drop (b - a) := by rw [List.drop_drop]; congr 1; omega
  rw [e]
  have e2 : c - a = (b - a) + (c - b) := by omega
  rw [e2, List.take_add]
theorem sub_one {t : Str} {a c : Nat} (h : (cd t)[a]? = some c) : sub t a (a + 1) = ⟨#[c]⟩ := by
  apply cd_inj
  rw [cd_sub]
  obtain ⟨lt, e⟩ := List.getElem?_eq_some_iff.mp h
  have e1 : a + 1 - a = 1 := by omega
  rw [e1, List.drop_eq_getElem_cons lt, e]
  rfl
/-- one sign there -/
theorem sub_is1 (t : Str) (a c : Nat) : sub t a (a + 1) = ⟨#[c]⟩ ↔ (cd t)[a]? = some c := by
  constructor
  · intro h
    have h2 := congrArg cd h
    rw [cd_sub, show a + 1 - a = 1 by omega] at h2
    cases e : (cd t)[a]? with
    | none =>
      rw [List.drop_of_length_le (List.getElem?_eq_none_iff.mp e)] at h2
      cases h2
    | some d =>
      obtain ⟨lt, e1⟩ := List.getElem?_eq_some_iff.mp e
      rw [List.drop_eq_getElem_cons lt, e1] at h2
      have h3 : [d] = [c] := h2
      rw [List.cons.inj h3 |>.1]
  · exact sub_one
theorem sub_is2 (t : Str) (a c d : Nat) : sub t a (a + 2) = ⟨#[c, d]⟩ ↔ (cd t)[a]? = some c ∧ (cd t)[a + 1]? = some d := by
  have j : sub t a (a + 1) ++ sub t (a + 1) (a + 2) = sub t a (a + 2) := sub_join (by omega) (by omega)
  constructor
  · intro h
    have h2 := congrArg cd h
    rw [cd_sub, show a + 2 - a = 2 by omega] at h2
    have h0 : ((cd t).drop a)[0]? = some c := by
      have : (List.take 2 ((cd t).drop a))[0]? = some c := by rw [h2]; rfl
      rw [List.getElem?_take_of_lt (by omega)] at this
      exact this
    have h1 : ((cd t).drop a)[1]? = some d := by
      have : (List.take 2 ((cd t).drop a))[1]? = some d := by rw [h2]; rfl
      rw [List.getElem?_take_of_lt (by omega)] at this
      exact this
    rw [List.getElem?_drop] at h0 h1
    exact ⟨h0, h1⟩
  · rintro ⟨h0, h1⟩
    rw [← j, sub_one h0, sub_one h1]
    rfl

/-- the first c from i on -/
def closeAt (t : Str) (c i : Nat) : Option Nat := if i + ((cd t).drop i).findIdx (· == c) < (cd t).length then some (i + ((cd t).drop i).findIdx (· == c)) else none
theorem close_some {t : Str} {c i k : Nat} (h1 : i ≤ k) (h2 : (cd t)[k]? = some c) (h3 : ∀ v, i ≤ v → v < k → (cd t)[v]? ≠ some c) : closeAt t c i = some k := by
  have hk : ((cd t).drop i)[k - i]? = some c := by rw [List.getElem?_drop]; rw [show i + (k - i) = k by omega]; exact h2
  obtain ⟨lt, e⟩ := List.getElem?_eq_some_iff.mp hk
  have lt2 : k < (cd t).length := (List.getElem?_eq_some_iff.mp h2).1
  have : ((cd t).drop i).findIdx (· == c) = k - i := by
    rw [List.findIdx_eq lt]
    refine ⟨by rw [e]; exact beq_self_eq_true c, fun j hj => ?_⟩
    have hjl : j < ((cd t).drop i).length := by omega
    rw [beq_eq_false_iff_ne]
    intro e2
    apply h3 (i + j) (by omega) (by omega)
    have h4 : ((cd t).drop i)[j]? = some c := by rw [List.getElem?_eq_getElem hjl, e2]
    rw [List.getElem?_drop] at h4
    exact h4
  unfold closeAt
  rw [this, if_pos (by omega)]
  congr 1
  omega
theorem close_is {t : Str} {c i k : Nat} (h : closeAt t c i = some k) : i ≤ k ∧ k < t.length ∧ (cd t)[k]? = some c ∧ ∀ v, i ≤ v → v < k → (cd t)[v]? ≠ some c := by
  unfold closeAt at h
  by_cases lt : i + ((cd t).drop i).findIdx (· == c) < (cd t).length
  · rw [if_pos lt] at h
    have hk2 : i + ((cd t).drop i).findIdx (· == c) = k := Option.some.inj h
    have lt3 : ((cd t).drop i).findIdx (· == c) < ((cd t).drop i).length := by rw [List.length_drop]; omega
    have e := List.findIdx_getElem (w := lt3)
    have at_k : ((cd t).drop i)[((cd t).drop i).findIdx (· == c)]? = some c := by rw [List.getElem?_eq_getElem lt3, eq_of_beq e]
    rw [List.getElem?_drop, hk2] at at_k
    refine ⟨by omega, by rw [cd_len]; omega, at_k, fun v hv1 hv2 hv3 => ?_⟩
    have hlt : v - i < ((cd t).drop i).findIdx (· == c) := by omega
    have := List.not_of_lt_findIdx hlt
    have h4 : ((cd t).drop i)[v - i]? = some c := by rw [List.getElem?_drop]; rw [show i + (v - i) = v by omega]; exact hv3
    obtain ⟨lt4, e4⟩ := List.getElem?_eq_some_iff.mp h4
    rw [e4] at this
    simp at this
  · rw [if_neg lt] at h
    cases h
theorem close_none {t : Str} {c i : Nat} (h : ∀ v, i ≤ v → (cd t)[v]? ≠ some c) : closeAt t c i = none := by
  cases e : closeAt t c i with
  | none => rfl
  | some k =>
    obtain ⟨h1, _, h2, _⟩ := close_is e
    exact absurd h2 (h k h1)
theorem close_free {t : Str} {c i : Nat} (h : closeAt t c i = none) : ∀ v, i ≤ v → (cd t)[v]? ≠ some c := by
  intro v h1 h2
  have fd : ∀ m k, k - i = m → i ≤ k → (cd t)[k]? = some c → False := by
    intro m
    induction m using Nat.strongRecOn with
    | _ m ih =>
      intro k hm hk1 hk2
      by_cases ex : ∀ v, i ≤ v → v < k → (cd t)[v]? ≠ some c
      · rw [close_some hk1 hk2 ex] at h
        cases h
      · have ⟨v, hv⟩ : ∃ v, ¬ (i ≤ v → v < k → (cd t)[v]? ≠ some c) := Classical.not_forall.mp ex
        have h1' : i ≤ v := Classical.byContradiction fun z => hv fun a => absurd a z
        have h2' : v < k := Classical.byContradiction fun z => hv fun _ b => absurd b z
        have h3' : (cd t)[v]? = some c := Classical.byContradiction fun z => hv fun _ _ => z
        exact ih (v - i) (by omega) v rfl h1' h3'
  exact fd _ v rfl h1 h2
/-- the sign at the start is another: one may begin behind it -/
theorem close_step {t : Str} {c i d : Nat} (h : (cd t)[i]? = some d) (ne : d ≠ c) : closeAt t c i = closeAt t c (i + 1) := by
  have skip : ∀ v, i ≤ v → (cd t)[v]? = some c → i + 1 ≤ v := fun v h1 h2 => by
    by_cases e : v = i
    · rw [e, h] at h2
      exact absurd (Option.some.inj h2) ne
    · omega
  cases e : closeAt t c (i + 1) with
  | none => exact close_none fun v h1 h2 => close_free e v (skip v h1 h2) h2
  | some k =>
    obtain ⟨h1, _, h2, h3⟩ := close_is e
    exact close_some (by omega) h2 fun v v1 v2 v3 => h3 v (skip v v1 v3) v2 v3
/-- str.find of one sign -/
theorem find_close (t : Str) (c i : Nat) : Txt.find3 t ⟨#[c]⟩ (i : Int) = match closeAt t c i with | some k => (k : Int) | none => -1 := by
  have fi : PySem.fromIndex t.length (i : Int) = i := by
    unfold PySem.fromIndex
    rw [if_neg (by omega)]
    omega
  have gd : ∀ v, v < t.length → ((cd t)[v]? = some c ↔ t.cps.getD v 0 = c) := by
    intro v hv
    constructor
    · intro h
      exact StrLaws.getD_of_getElem? h
    · intro h
      exact StrLaws.getElem?_of_getD hv h
  have big : ∀ v, (cd t)[v]? = some c → v < t.length := fun v h => by rw [cd_len]; exact (List.getElem?_eq_some_iff.mp h).1
  rcases StrLaws.find3_spec t c (i : Int) with ⟨h0, hn⟩ | ⟨k, h0, h1, h2, h3, h4⟩
  · rw [fi] at hn
    rw [close_none fun v hv hs => hn v hv (big v hs) ((gd v (big v hs)).mp hs), h0]
  · rw [fi] at h1 h4
    rw [close_some h1 ((gd k h2).mpr h3) fun v hv1 hv2 hs => h4 v hv1 hv2 ((gd v (big v hs)).mp hs), h0]
end Pg

/-! What splits a text. -/
namespace Pg
open PySem PySem.Spec PyProof.Rows L2
abbrev Seg := Str × Str
/-- the segment that is no text and begins at i: its kind, its name, the place behind it -/
def brk (N A : Str → Bool) (t : Str) (i : Nat) : Option (Str × Str × Nat) :=
  if (cd t)[i]? = some 91 then
    match closeAt t 93 (i + 1) with
    | some e => if N (sub t (i + 1) e) = true then some ("link", sub t (i + 1) e, e + 1) else none
    | none => none
  else if (cd t)[i]? = some 60 then
    match closeAt t 62 (i + 1) with
    | some e =>
      if (cd t)[i + 1]? = some 64 then (if (N (sub t (i + 2) e) && A (sub t (i + 2) e)) = true then some ("indirect", sub t (i + 2) e, e + 1) else none)
      else (if (N (sub t (i + 1) e) && A (sub t (i + 1) e)) = true then some ("include", sub t (i + 1) e, e + 1) else none)
    | none => none
  else none
/-- a segment's own text -/
def textOf (s : Seg) : Str := if s.1 = "text" then s.2 else if s.1 = "include" then "<" ++ s.2 ++ ">" else if s.1 = "indirect" then "<@" ++ s.2 ++ ">" else "[" ++ s.2 ++ "]"
theorem text_link (z : Str) : textOf ("link", z) = "[" ++ z ++ "]" := by
  unfold textOf
  rw [if_neg (show ¬ (("link" : Str) = "text") by decide +kernel), if_neg (show ¬ (("link" : Str) = "include") by decide +kernel), if_neg (show ¬ (("link" : Str) = "indirect") by decide +kernel)]
theorem text_ind (z : Str) : textOf ("indirect", z) = "<@" ++ z ++ ">" := by
  unfold textOf
  rw [if_neg (show ¬ (("indirect" : Str) = "text") by decide +kernel), if_neg (show ¬ (("indirect" : Str) = "include") by decide +kernel), if_pos rfl]
theorem text_inc (z : Str) : textOf ("include", z) = "<" ++ z ++ ">" := by
  unfold textOf
  rw [if_neg (show ¬ (("include" : Str) = "text") by decide +kernel), if_pos rfl]
theorem s60 : ("<" : Str) = ⟨#[60]⟩ := by decide +kernel
theorem s62 : (">" : Str) = ⟨#[62]⟩ := by decide +kernel
theorem s91 : ("[" : Str) = ⟨#[91]⟩ := by decide +kernel
theorem s93 : ("]" : Str) = ⟨#[93]⟩ := by decide +kernel
theorem s6064 : ("<@" : Str) = ⟨#[60, 64]⟩ := by decide +kernel
theorem s0 : ("" : Str) = ⟨#[]⟩ := by decide +kernel
theorem wrap1 {t : Str} {i e : Nat} {b c : Nat} (h1 : i + 1 ≤ e) (hb : (cd t)[i]? = some b) (hc : (cd t)[e]? = some c) : (⟨#[b]⟩ : Str) ++ sub t (i + 1) e ++ ⟨#[c]⟩ = sub t i (e + 1) := by
  rw [← sub_one hb, ← sub_one hc, sub_join (by omega) h1, sub_join (by omega) (by omega)]
theorem wrap2 {t : Str} {i e : Nat} {b d c : Nat} (h1 : i + 2 ≤ e) (hb : (cd t)[i]? = some b) (hd : (cd t)[i + 1]? = some d) (hc : (cd t)[e]? = some c) : (⟨#[b, d]⟩ : Str) ++ sub t (i + 2) e ++ ⟨#[c]⟩ = sub t i (e + 1) := by
  rw [← (sub_is2 t i b d).mpr ⟨hb, hd⟩, ← sub_one hc, sub_join (by omega) h1, sub_join (by omega) (by omega)]
def kinds : List Str := ["include", "indirect", "link"]
theorem kinds_no : ∀ k ∈ kinds, k ≠ "text" := by decide +kernel
theorem brk_is {N A : Str → Bool} {t k z : Str} {i e : Nat} (h : brk N A t i = some (k, z, e)) : i < e ∧ e ≤ t.length ∧ textOf (k, z) = sub t i e ∧ k ∈ kinds ∧ z.length ≤ t.length := by
  unfold brk at h
  by_cases h1 : (cd t)[i]? = some 91
  · rw [if_pos h1] at h
    split at h
    · rename_i e0 he
      obtain ⟨c1, c2, c3, _⟩ := close_is he
      split at h
      · cases h
        refine ⟨by omega, by omega, ?_, by decide +kernel, by rw [sub_len (by omega)]; omega⟩
        rw [← wrap1 c1 h1 c3, ← s91, ← s93, text_link]
      · cases h
    · cases h
  · rw [if_neg h1] at h
    by_cases h2 : (cd t)[i]? = some 60
    · rw [if_pos h2] at h
      split at h
      · rename_i e0 he
        obtain ⟨c1, c2, c3, c4⟩ := close_is he
        by_cases h3 : (cd t)[i + 1]? = some 64
        · rw [if_pos h3] at h
          split at h
          · cases h
            have c1' : i + 2 ≤ e0 := by
              by_cases e : e0 = i + 1
              · subst e
                rw [h3] at c3
                cases c3
              · omega
            refine ⟨by omega, by omega, ?_, by decide +kernel, by rw [sub_len (by omega)]; omega⟩
            rw [← wrap2 c1' h2 h3 c3, ← s6064, ← s62, text_ind]
          · cases h
        · rw [if_neg h3] at h
          split at h
          · cases h
            refine ⟨by omega, by omega, ?_, by decide +kernel, by rw [sub_len (by omega)]; omega⟩
            rw [← wrap1 c1 h2 c3, ← s60, ← s62, text_inc]
          · cases h
      · cases h
    · rw [if_neg h2] at h
      cases h
/-- plain signs as a segment, or none -/
def plain (z : Str) : List Seg := if z = ⟨#[]⟩ then [] else [("text", z)]
/-- the segments, when all before `done` is told and i is reached -/
def segs (N A : Str → Bool) (t : Str) (done i : Nat) : List Seg :=
  if i < t.length then
    match brk N A t i with
    | none => segs N A t done (i + 1)
    | some (k, z, e) => if i < e then plain (sub t done i) ++ ((k, z) :: segs N A t e e) else []
  else plain (sub t done t.length)
termination_by t.length - i
theorem segs_end {N A : Str → Bool} {t : Str} {done i : Nat} (h : ¬ i < t.length) : segs N A t done i = plain (sub t done t.length) := by
  rw [segs, if_neg h]
theorem segs_none {N A : Str → Bool} {t : Str} {done i : Nat} (h : i < t.length) (b : brk N A t i = none) : segs N A t done i = segs N A t done (i + 1) := by
  rw [segs, if_pos h, b]
theorem segs_some {N A : Str → Bool} {t k z : Str} {done i e : Nat} (h : i < t.length) (b : brk N A t i = some (k, z, e)) : segs N A t done i = plain (sub t done i) ++ ((k, z) :: segs N A t e e) := by
  rw [segs, if_pos h, b]
  simp only
  rw [if_pos (brk_is b).1]
/-- texts one behind another -/
def glue : List Str → Str
  | [] => ⟨#[]⟩
  | x :: r => x ++ glue r
theorem glue_app : ∀ a b : List Str, glue (a ++ b) = glue a ++ glue b
  | [], b => by
    apply cd_inj
    rw [cd_app]
    rfl
  | x :: a, b => by
    show x ++ glue (a ++ b) = x ++ glue a ++ glue b
    rw [glue_app a b]
    apply cd_inj
    simp only [cd_app, List.append_assoc]
theorem glue_plain (z : Str) : glue ((plain z).map textOf) = z := by
  unfold plain
  split
  · rename_i e
    rw [e]
    rfl
  · apply cd_inj
    show cd (textOf ("text", z) ++ ⟨#[]⟩) = _
    rw [cd_app]
    unfold textOf
    rw [if_pos rfl]
    simp
theorem glue_segs (N A : Str → Bool) (t : Str) : ∀ (m done i : Nat), t.length - i = m → done ≤ i → i ≤ t.length → glue ((segs N A t done i).map textOf) = sub t done t.length := by
  intro m
  induction m using Nat.strongRecOn with
  | _ m ih =>
    intro done i hm h1 h2
    by_cases lt : i < t.length
    · cases b : brk N A t i with
      | none =>
        rw [segs_none lt b]
        exact ih (t.length - (i + 1)) (by omega) done (i + 1) rfl (by omega) (by omega)
      | some r =>
        obtain ⟨k, z, e⟩ := r
        obtain ⟨b1, b2, b3, _⟩ := brk_is b
        rw [segs_some lt b, List.map_append, glue_app, glue_plain, List.map_cons]
        show sub t done i ++ (textOf (k, z) ++ glue ((segs N A t e e).map textOf)) = _
        rw [ih (t.length - e) (by omega) e e rfl (Nat.le_refl _) b2, b3, sub_join (by omega) b2, sub_join h1 (by omega)]
    · rw [segs_end lt, glue_plain]
theorem glue_all (N A : Str → Bool) (t : Str) : glue ((segs N A t 0 0).map textOf) = t := by
  rw [glue_segs N A t t.length 0 0 rfl (Nat.le_refl _) (Nat.zero_le _), sub_full]
def noText : Seg := (("text" : Str), (⟨#[]⟩ : Str))
/-- no empty text, no text beside another one -/
def okL : List Seg → Prop
  | [] => True
  | s :: r => s ≠ noText ∧ (∀ s', r.head? = some s' → ¬ (s.1 = "text" ∧ s'.1 = "text")) ∧ okL r
theorem okL_plain {z : Str} {r : List Seg} (h : okL r) (no : ∀ s, r.head? = some s → s.1 ≠ "text") : okL (plain z ++ r) := by
  unfold plain
  split
  · exact h
  · rename_i e
    exact ⟨fun q => e (Prod.mk.inj q).2, fun s' hs q => no s' hs q.2, h⟩
theorem okL_segs (N A : Str → Bool) (t : Str) : ∀ (m done i : Nat), t.length - i = m → i ≤ t.length → okL (segs N A t done i) := by
  intro m
  induction m using Nat.strongRecOn with
  | _ m ih =>
    intro done i hm h2
    by_cases lt : i < t.length
    · cases b : brk N A t i with
      | none =>
        rw [segs_none lt b]
        exact ih (t.length - (i + 1)) (by omega) done (i + 1) rfl (by omega)
      | some r =>
        obtain ⟨k, z, e⟩ := r
        obtain ⟨b1, b2, b3, b4, _⟩ := brk_is b
        have kn := kinds_no k b4
        rw [segs_some lt b]
        apply okL_plain
        · refine ⟨fun q => kn (Prod.mk.inj q).1, fun s' _ q => kn q.1, ih (t.length - e) (by omega) e e rfl b2⟩
        · intro s hs
          cases hs
          exact kn
    · rw [segs_end lt]
      have : plain (sub t done t.length) = plain (sub t done t.length) ++ [] := (List.append_nil _).symm
      rw [this]
      exact okL_plain trivial (fun s hs => by cases hs)
theorem okL_get : ∀ {l : List Seg} {i : Nat} {s : Seg}, okL l → l[i]? = some s → s ≠ noText ∧ ∀ j r, i = j + 1 → l[j]? = some r → ¬ (s.1 = "text" ∧ r.1 = "text")
  | [], _, _, _, h => by simp at h
  | x :: l, 0, s, ok, h => by
    obtain rfl : x = s := Option.some.inj h
    exact ⟨ok.1, fun j r e => by omega⟩
  | x :: l, i + 1, s, ok, h => by
    have h' : l[i]? = some s := by simpa using h
    obtain ⟨a, b⟩ := okL_get ok.2.2 h'
    refine ⟨a, fun j r e hr => ?_⟩
    obtain rfl : i = j := by omega
    cases i with
    | zero =>
      obtain rfl : x = r := by simpa using hr
      have hd : l.head? = some s := by rw [List.head?_eq_getElem?]; exact h'
      exact fun q => ok.2.1 s hd ⟨q.2, q.1⟩
    | succ i =>
      have hr' : l[i]? = some r := by simpa using hr
      exact b i r rfl hr'
theorem segs_few (N A : Str → Bool) (t : Str) : ∀ (m done i : Nat), t.length - i = m → i ≤ t.length → (segs N A t done i).length ≤ 2 * (t.length - i) + 1 := by
  intro m
  have pl : ∀ z : Str, (plain z).length ≤ 1 := fun z => by unfold plain; split <;> simp
  induction m using Nat.strongRecOn with
  | _ m ih =>
    intro done i hm h2
    by_cases lt : i < t.length
    · cases b : brk N A t i with
      | none =>
        rw [segs_none lt b]
        have := ih (t.length - (i + 1)) (by omega) done (i + 1) rfl (by omega)
        omega
      | some r =>
        obtain ⟨k, z, e⟩ := r
        obtain ⟨b1, b2, _⟩ := brk_is b
        rw [segs_some lt b, List.length_append, List.length_cons]
        have h1 := pl (sub t done i)
        have h2 := ih (t.length - e) (by omega) e e rfl b2
        omega
    · rw [segs_end lt]
      have := pl (sub t done t.length)
      omega
end Pg
namespace Pg
open PySem PySem.Spec PyProof.Rows L2
/-- one kind, tried at i -/
def tryK (N A : Str → Bool) (t : Str) (i : Nat) (k b : Str) (c : Nat) : Option (Str × Str × Nat) :=
  if sub t i (i + b.length) = b then
    match closeAt t c (i + b.length) with
    | some e => if (N (sub t (i + b.length) e) && (decide (k = "link") || A (sub t (i + b.length) e))) = true then some (k, sub t (i + b.length) e, e + 1) else none
    | none => none
  else none
theorem brk_try {N A : Str → Bool} {t : Str} {i : Nat} (hN : ∀ z, N z = true → 64 ∉ cd z) :
    brk N A t i = ((tryK N A t i "include" "<" 62).or ((tryK N A t i "indirect" "<@" 62).or (tryK N A t i "link" "[" 93))) := by
  have l1 : ("<" : Str).length = 1 := rfl
  have l2 : ("<@" : Str).length = 2 := rfl
  have l3 : ("[" : Str).length = 1 := rfl
  have k1 : decide (("include" : Str) = "link") = false := by decide +kernel
  have k2 : decide (("indirect" : Str) = "link") = false := by decide +kernel
  have k3 : decide (("link" : Str) = "link") = true := decide_eq_true rfl
  unfold brk tryK
  rw [l1, l2, l3, k1, k2, k3]
  simp only [s60, s6064, s91, sub_is1, sub_is2, Bool.false_or, Bool.true_or, Bool.and_true]
  by_cases h1 : (cd t)[i]? = some 91
  · have n60 : ¬ (cd t)[i]? = some 60 := by rw [h1]; simp
    rw [if_pos h1, if_neg n60, if_neg (fun z => n60 z.1), if_pos h1]
    rfl
  · rw [if_neg h1]
    by_cases h2 : (cd t)[i]? = some 60
    · rw [if_pos h2, if_pos h2, if_neg h1]
      by_cases h3 : (cd t)[i + 1]? = some 64
      · rw [if_pos ⟨h2, h3⟩]
        have cs : closeAt t 62 (i + 1) = closeAt t 62 (i + 2) := close_step h3 (by decide)
        rw [← cs]
        cases e : closeAt t 62 (i + 1) with
        | none => rfl
        | some k =>
          obtain ⟨c1, c2, c3, _⟩ := close_is e
          have no : N (sub t (i + 1) k) = false := by
            cases q : N (sub t (i + 1) k) with
            | false => rfl
            | true =>
              exfalso
              apply hN _ q
              have lt : i + 1 < k := by
                by_cases z : k = i + 1
                · subst z
                  rw [h3] at c3
                  cases c3
                · omega
              have : (cd (sub t (i + 1) k))[0]? = some 64 := by
                rw [cd_sub, List.getElem?_take_of_lt (by omega), List.getElem?_drop]
                exact h3
              exact List.mem_of_getElem? this
          simp only [h3, no, if_true, Bool.false_and, Bool.false_eq_true, if_false, Option.none_or, Option.or_none]
      · rw [if_neg (fun z => h3 z.2)]
        cases e : closeAt t 62 (i + 1) with
        | none => rfl
        | some k => simp only [h3, if_false, Option.or_none]
    · rw [if_neg h2, if_neg h2, if_neg (fun z => h2 z.1), if_neg h1]
      rfl
theorem segs_kinds (N A : Str → Bool) (t : Str) : ∀ (m done i : Nat), t.length - i = m → done ≤ i → i ≤ t.length → ∀ s ∈ segs N A t done i, (s.1 = "text" ∨ s.1 ∈ kinds) ∧ s.2.length ≤ t.length := by
  intro m
  have pl : ∀ a b : Nat, b ≤ t.length → ∀ s ∈ plain (sub t a b), (s.1 = "text" ∨ s.1 ∈ kinds) ∧ s.2.length ≤ t.length := by
    intro a b hb s hs
    unfold plain at hs
    split at hs
    · cases hs
    · rw [List.mem_singleton.mp hs]
      exact ⟨Or.inl rfl, by show (sub t a b).length ≤ _; rw [sub_len hb]; omega⟩
  induction m using Nat.strongRecOn with
  | _ m ih =>
    intro done i hm h1 h2 s hs
    by_cases lt : i < t.length
    · cases b : brk N A t i with
      | none =>
        rw [segs_none lt b] at hs
        exact ih (t.length - (i + 1)) (by omega) done (i + 1) rfl (by omega) (by omega) s hs
      | some r =>
        obtain ⟨k, z, e⟩ := r
        obtain ⟨b1, b2, _, b4, b5⟩ := brk_is b
        rw [segs_some lt b] at hs
        rcases List.mem_append.mp hs with h | h
        · exact pl done i h2 s h
        · rcases List.mem_cons.mp h with h | h
          · rw [h]
            exact ⟨Or.inr b4, b5⟩
          · exact ih (t.length - e) (by omega) e e rfl (Nat.le_refl _) b2 s h
    · rw [segs_end lt] at hs
      exact pl done t.length (Nat.le_refl _) s hs
end Pg
namespace Pg
open PySem PySem.Spec PyProof.Rows L2
/-- signs that there are -/
def Codes (z : Str) : Prop := ∀ c ∈ cd z, c < 1114112
theorem Codes.ok {z : Str} (h : Codes z) : PyData.strOk z = true := by
  unfold PyData.strOk
  rw [← Array.all_toList, List.all_eq_true]
  intro c hc
  exact decide_eq_true (h c hc)
theorem Codes.sub {t : Str} (h : Codes t) (a b : Nat) : Codes (sub t a b) := fun c hc => h c (List.mem_of_mem_drop (List.mem_of_mem_take hc))
theorem kinds_codes : ∀ k ∈ (("text" : Str) :: kinds), k.cps.toList.all (fun c => decide (c < 127)) = true ∧ k.length ≤ 8 := by decide +kernel
theorem kind_codes {k : Str} (h : k = "text" ∨ k ∈ kinds) : Codes k := fun c hc => by
  have m : k ∈ (("text" : Str) :: kinds) := by
    rcases h with h | h
    · rw [h]; exact List.mem_cons_self
    · exact List.mem_cons_of_mem _ h
  have := of_decide_eq_true (List.all_eq_true.mp (kinds_codes k m).1 c hc)
  omega
/-- a segment of a text: its kind, its signs -/
def Fine (t : Str) (s : Seg) : Prop := (s.1 = "text" ∨ s.1 ∈ kinds) ∧ s.2.length ≤ t.length ∧ ∀ c ∈ cd s.2, c ∈ cd t
theorem plain_fine {t : Str} {a b : Nat} (hb : b ≤ t.length) : ∀ s ∈ plain (sub t a b), Fine t s := by
  intro s hs
  unfold plain at hs
  split at hs
  · cases hs
  · rw [List.mem_singleton.mp hs]
    exact ⟨Or.inl rfl, by show (sub t a b).length ≤ _; rw [sub_len hb]; omega, fun c hc => List.mem_of_mem_drop (List.mem_of_mem_take hc)⟩
theorem brk_part {N A : Str → Bool} {t k z : Str} {i e : Nat} (h : brk N A t i = some (k, z, e)) : ∀ c ∈ cd z, c ∈ cd t := by
  have sb : ∀ a b, ∀ c ∈ cd (sub t a b), c ∈ cd t := fun a b c hc => List.mem_of_mem_drop (List.mem_of_mem_take hc)
  unfold brk at h
  repeat' split at h
  all_goals first
    | (cases h; done)
    | (cases h; exact sb _ _)
theorem segs_fine (N A : Str → Bool) (t : Str) : ∀ (m done i : Nat), t.length - i = m → done ≤ i → i ≤ t.length → ∀ s ∈ segs N A t done i, Fine t s := by
  intro m
  induction m using Nat.strongRecOn with
  | _ m ih =>
    intro done i hm h1 h2 s hs
    by_cases lt : i < t.length
    · cases b : brk N A t i with
      | none =>
        rw [segs_none lt b] at hs
        exact ih (t.length - (i + 1)) (by omega) done (i + 1) rfl (by omega) (by omega) s hs
      | some r =>
        obtain ⟨k, z, e⟩ := r
        obtain ⟨b1, b2, _, b4, b5⟩ := brk_is b
        rw [segs_some lt b] at hs
        rcases List.mem_append.mp hs with h | h
        · exact plain_fine h2 s h
        · rcases List.mem_cons.mp h with h | h
          · rw [h]
            exact ⟨Or.inr b4, b5, brk_part b⟩
          · exact ih (t.length - e) (by omega) e e rfl (Nat.le_refl _) b2 s h
    · rw [segs_end lt] at hs
      exact plain_fine (Nat.le_refl _) s hs
end Pg
namespace Pg
open PySem PySem.Spec PyProof.Rows L2
theorem brk_after {N A : Str → Bool} {t k z : Str} {i e : Nat} (h : brk N A t i = some (k, z, e)) : (k = "link" ∧ N z = true) ∨ ((k = "include" ∨ k = "indirect") ∧ N z = true ∧ A z = true) := by
  unfold brk at h
  repeat' split at h
  all_goals first
    | (cases h; done)
    | (rename_i q; cases h; exact .inl ⟨rfl, q⟩)
    | (rename_i q; cases h; obtain ⟨q1, q2⟩ := Bool.and_eq_true_iff.mp q; exact .inr ⟨.inl rfl, q1, q2⟩)
    | (rename_i q; cases h; obtain ⟨q1, q2⟩ := Bool.and_eq_true_iff.mp q; exact .inr ⟨.inr rfl, q1, q2⟩)
theorem plain_kind {z : Str} : ∀ s ∈ plain z, s.1 = "text" := by
  intro s hs
  unfold plain at hs
  split at hs
  · cases hs
  · rw [List.mem_singleton.mp hs]
theorem segs_after (N A : Str → Bool) (t : Str) : ∀ (m done i : Nat), t.length - i = m → i ≤ t.length → ∀ s ∈ segs N A t done i, s.1 = "text" ∨ (s.1 = "link" ∧ N s.2 = true) ∨ ((s.1 = "include" ∨ s.1 = "indirect") ∧ N s.2 = true ∧ A s.2 = true) := by
  intro m
  induction m using Nat.strongRecOn with
  | _ m ih =>
    intro done i hm h2 s hs
    by_cases lt : i < t.length
    · cases b : brk N A t i with
      | none =>
        rw [segs_none lt b] at hs
        exact ih (t.length - (i + 1)) (by omega) done (i + 1) rfl (by omega) s hs
      | some r =>
        obtain ⟨k, z, e⟩ := r
        obtain ⟨b1, b2, _⟩ := brk_is b
        rw [segs_some lt b] at hs
        rcases List.mem_append.mp hs with h | h
        · exact .inl (plain_kind s h)
        · rcases List.mem_cons.mp h with h | h
          · rw [h]
            exact .inr (brk_after b)
          · exact ih (t.length - e) (by omega) e e rfl b2 s h
    · rw [segs_end lt] at hs
      exact .inl (plain_kind s hs)
end Pg

/-! Dicts with texts as keys, as rows of pairs. -/
namespace Pg
open PySem PySem.Spec PyProof.Rows L2
section
variable {β : Type}
/-- the row of pairs as the dict's own -/
def enc (f : β → V) (kvs : List (Str × β)) : List (Key × V) := kvs.map fun p => (Sum.inr p.1, f p.2)
def getS : List (Str × β) → Str → Option β
  | [], _ => none
  | p :: r, k => if p.1 = k then some p.2 else getS r k
/-- in its place, or at the end -/
def putS : List (Str × β) → Str → β → List (Str × β)
  | [], k, v => [(k, v)]
  | p :: r, k, v => if p.1 = k then (p.1, v) :: r.map (fun q => if q.1 = k then (q.1, v) else q) else p :: putS r k v
theorem valV_enc (f : β → V) : ∀ (kvs : List (Str × β)) (k : Str), valV (enc f kvs) (Sum.inr k) = (getS kvs k).map f
  | [], k => rfl
  | p :: r, k => by
    by_cases e : p.1 = k
    · rw [show enc f (p :: r) = (Sum.inr p.1, f p.2) :: enc f r from rfl, valV_pos (by rw [e]), getS, if_pos e]
      rfl
    · rw [show enc f (p :: r) = (Sum.inr p.1, f p.2) :: enc f r from rfl, valV_neg (fun h => e (Sum.inr.inj h)), getS, if_neg e]
      exact valV_enc f r k
theorem any_enc (f : β → V) : ∀ (kvs : List (Str × β)) (k : Str), ((enc f kvs).any fun kv => decide (kv.1 = Sum.inr k)) = (getS kvs k).isSome
  | [], k => rfl
  | p :: r, k => by
    rw [show enc f (p :: r) = (Sum.inr p.1, f p.2) :: enc f r from rfl, List.any_cons, getS]
    by_cases e : p.1 = k
    · rw [if_pos e, decide_eq_true (by rw [e]), Bool.true_or]
      rfl
    · rw [if_neg e, decide_eq_false (fun h => e (Sum.inr.inj h)), Bool.false_or]
      exact any_enc f r k
theorem map_enc (f : β → V) (k : Str) (v : β) : ∀ kvs : List (Str × β), (enc f kvs).map (fun kv => if kv.1 = Sum.inr k then (kv.1, f v) else kv) = enc f (kvs.map fun q => if q.1 = k then (q.1, v) else q)
  | [] => rfl
  | p :: r => by
    have ih := map_enc f k v r
    show (if (Sum.inr p.1 : Key) = Sum.inr k then ((Sum.inr p.1 : Key), f v) else (Sum.inr p.1, f p.2)) :: (enc f r).map _ = (Sum.inr (if p.1 = k then (p.1, v) else p).1, f (if p.1 = k then (p.1, v) else p).2) :: enc f (r.map _)
    rw [ih]
    by_cases e : p.1 = k
    · rw [if_pos e, if_pos (by rw [e])]
    · rw [if_neg e, if_neg (fun h => e (Sum.inr.inj h))]
theorem putS_has : ∀ {kvs : List (Str × β)} {k : Str} {v : β}, (getS kvs k).isSome = true → putS kvs k v = kvs.map (fun q => if q.1 = k then (q.1, v) else q)
  | [], k, v, h => by cases h
  | p :: r, k, v, h => by
    unfold putS
    by_cases e : p.1 = k
    · rw [if_pos e, List.map_cons, if_pos e]
    · rw [getS, if_neg e] at h
      rw [if_neg e, putS_has h, List.map_cons, if_neg e]
theorem putS_new : ∀ {kvs : List (Str × β)} {k : Str} {v : β}, (getS kvs k).isSome = false → putS kvs k v = kvs ++ [(k, v)]
  | [], k, v, h => rfl
  | p :: r, k, v, h => by
    unfold putS
    by_cases e : p.1 = k
    · rw [getS, if_pos e] at h
      cases h
    · rw [getS, if_neg e] at h
      rw [if_neg e, putS_new h]
      rfl
theorem putK_enc (f : β → V) (kvs : List (Str × β)) (k : Str) (v : β) : putK (enc f kvs) (Sum.inr k) (f v) = enc f (putS kvs k v) := by
  unfold putK
  rw [any_enc]
  cases e : (getS kvs k).isSome with
  | true => rw [if_pos rfl, putS_has e, map_enc]
  | false =>
    rw [if_neg Bool.false_ne_true, putS_new e]
    unfold enc
    rw [List.map_append]
    rfl
theorem keys_put : ∀ (kvs : List (Str × β)) (k : Str) (v : β), (putS kvs k v).map (·.1) = if (getS kvs k).isSome = true then kvs.map (·.1) else kvs.map (·.1) ++ [k] := by
  intro kvs k v
  cases e : (getS kvs k).isSome with
  | true =>
    rw [if_pos rfl, putS_has e, List.map_map]
    refine List.map_congr_left fun p _ => ?_
    show (if p.1 = k then (p.1, v) else p).1 = p.1
    split <;> rfl
  | false =>
    rw [if_neg Bool.false_ne_true, putS_new e, List.map_append]
    rfl
theorem get_some : ∀ {kvs : List (Str × β)} {k : Str} {v : β}, getS kvs k = some v → (k, v) ∈ kvs
  | [], k, v, h => by cases h
  | p :: r, k, v, h => by
    rw [getS] at h
    by_cases e : p.1 = k
    · rw [if_pos e] at h
      obtain rfl := Option.some.inj h
      rw [← e]
      exact List.mem_cons_self
    · rw [if_neg e] at h
      exact List.mem_cons_of_mem _ (get_some h)
theorem get_none : ∀ {kvs : List (Str × β)} {k : Str}, getS kvs k = none ↔ k ∉ kvs.map (·.1)
  | [], k => ⟨fun _ h => (by cases h), fun _ => rfl⟩
  | p :: r, k => by
    rw [getS, List.map_cons, List.mem_cons]
    by_cases e : p.1 = k
    · rw [if_pos e]
      exact ⟨fun h => (by cases h), fun h => absurd (Or.inl e.symm) h⟩
    · rw [if_neg e, get_none]
      exact ⟨fun h z => z.elim (fun q => e q.symm) h, fun h z => h (Or.inr z)⟩
theorem nodup_put {kvs : List (Str × β)} (k : Str) (v : β) (h : (kvs.map (·.1)).Nodup) : ((putS kvs k v).map (·.1)).Nodup := by
  rw [keys_put]
  split
  · exact h
  · rename_i e
    have n : getS kvs k = none := by
      cases q : getS kvs k with
      | none => rfl
      | some _ => rw [q] at e; exact absurd rfl e
    have nin := get_none.mp n
    rw [List.nodup_append]
    exact ⟨h, by simp, fun a ha c hc => by rw [List.mem_singleton.mp hc]; rintro rfl; exact nin ha⟩
theorem mem_put {kvs : List (Str × β)} {k : Str} {v : β} {p : Str × β} (h : p ∈ putS kvs k v) : p = (k, v) ∨ p ∈ kvs := by
  cases e : (getS kvs k).isSome with
  | true =>
    rw [putS_has e] at h
    obtain ⟨q, hq, rfl⟩ := List.mem_map.mp h
    by_cases z : q.1 = k
    · rw [if_pos z, z]
      exact Or.inl rfl
    · rw [if_neg z]
      exact Or.inr hq
  | false =>
    rw [putS_new e] at h
    rcases List.mem_append.mp h with h | h
    · exact Or.inr h
    · exact Or.inl (List.mem_singleton.mp h)
theorem get_put {kvs : List (Str × β)} {k j : Str} {v : β} : getS (putS kvs k v) j = if j = k then some v else getS kvs j := by
  induction kvs with
  | nil =>
    show (if k = j then some v else none) = _
    by_cases e : j = k
    · rw [if_pos e, if_pos e.symm]
    · rw [if_neg e, if_neg (fun h => e h.symm)]
      rfl
  | cons p r ih =>
    unfold putS
    by_cases e : p.1 = k
    · rw [if_pos e]
      by_cases z : j = k
      · rw [if_pos z, getS, if_pos (by rw [z]; exact e)]
      · rw [if_neg z, getS, getS, if_neg (by rw [e]; exact fun h => z h.symm), if_neg (by rw [e]; exact fun h => z h.symm)]
        have mp : ∀ l : List (Str × β), getS (l.map fun q => if q.1 = k then (q.1, v) else q) j = getS l j := by
          intro l
          induction l with
          | nil => rfl
          | cons q l il =>
            rw [List.map_cons, getS, getS, il]
            by_cases w : q.1 = k
            · rw [if_pos w, if_neg (by show ¬ q.1 = j; rw [w]; exact fun h => z h.symm), if_neg (by rw [w]; exact fun h => z h.symm)]
            · rw [if_neg w]
        exact mp r
    · rw [if_neg e, getS, getS, ih]
      by_cases z : p.1 = j
      · rw [if_pos z, if_pos z, if_neg (by rw [← z]; exact e)]
      · rw [if_neg z, if_neg z]
theorem len_put (kvs : List (Str × β)) (k : Str) (v : β) : (putS kvs k v).length ≤ kvs.length + 1 := by
  cases e : (getS kvs k).isSome with
  | true => rw [putS_has e, List.length_map]; omega
  | false => rw [putS_new e, List.length_append]; exact Nat.le_refl _
end
/-- some different texts out of a row are no more than the row -/
theorem few_of : ∀ {xs ys : List Str}, xs.Nodup → (∀ x ∈ xs, x ∈ ys) → xs.length ≤ ys.length
  | [], _, _, _ => Nat.zero_le _
  | x :: r, ys, nd, h => by
    obtain ⟨nx, nr⟩ := List.nodup_cons.mp nd
    have mx := h x List.mem_cons_self
    have ih := few_of (ys := ys.erase x) nr fun y hy => (List.mem_erase_of_ne (by rintro rfl; exact nx hy)).mpr (h y (List.mem_cons_of_mem _ hy))
    rw [List.length_erase_of_mem mx] at ih
    have : 0 < ys.length := List.length_pos_of_mem mx
    rw [List.length_cons]
    omega
end Pg

/-! Texts in their order: sorted of any number, and rows that rise. -/
namespace Pg
open PySem PySem.Spec PyProof.Rows L2
section
variable {X : Cx}
/-- sorted(l), l a row of texts of any length: the same texts, in order, in a new row -/
def rSortedSA (K : PySem.W.Frag) : List V → Hp → VK → Prop := fun args H Q =>
  ∃ (l : Addr) (texts : List Str), args = [.ref l] ∧ SqL K H l (texts.map V.str) ∧
    ∀ (inOrder : List Str) (new : Addr), inOrder.Perm texts → sortedS inOrder = true → H new = none →
      Q (.ref new) (upd H new (.lst (inOrder.map V.str)))
theorem cr_sortedSA : CallR X (.builtin "sorted") (rSortedSA X.K) := by
  rintro pins s σ H args vals Q I rel ⟨l, texts, rfl, at_l, want⟩
  obtain ⟨items, same, isl, small⟩ := I.list at_l
  rw [Vals.ref1 rel]
  have size := same.length
  apply PyProof.Rows.sorted_strsAny isl.isList same.strs (by rw [← size]; exact small)
  intro out inOrder areTexts perm order
  obtain ⟨extra, made⟩ := PyProof.Rows.sortedAll_at s.heap items out
  have isNew : H (s.heap.objs.size + 1) = none := I.hok.fresh (Nat.le_succ _)
  have fits : (inOrder.map V.str).length ≤ sizeLine := by
    rw [List.length_map] at small ⊢
    rw [perm.length_eq]
    exact small
  refine ⟨V.ref (s.heap.objs.size + 1), upd H (s.heap.objs.size + 1) (.lst (inOrder.map V.str)), ?_, rfl, ?_⟩
  · apply I.laid (t' := s.toks) (fun _ _ old => PyProof.Rows.sortedAll_old old) (Nat.le_succ _)
    exact ⟨fits, out.toList, extra, vals_of_strs areTexts, made⟩
  · exact want inOrder _ perm order isNew
end
theorem lc_irr : ∀ a : List Nat, ltCps a a = false
  | [] => rfl
  | x :: r => by simp [ltCps, lc_irr r]
theorem lc_trans : ∀ {a b c : List Nat}, ltCps a b = true → ltCps b c = true → ltCps a c = true
  | [], [], _, h, _ => by cases h
  | [], _ :: _, [], _, h => by cases h
  | [], _ :: _, _ :: _, _, _ => rfl
  | _ :: _, [], _, h, _ => by cases h
  | _ :: _, _ :: _, [], _, h => by cases h
  | x :: a, y :: b, z :: c, h, k => by
    simp only [ltCps, Bool.or_eq_true, decide_eq_true_eq, Bool.and_eq_true, beq_iff_eq] at h k ⊢
    rcases h with h | ⟨rfl, h⟩
    · rcases k with k | ⟨rfl, k⟩
      · exact Or.inl (by omega)
      · exact Or.inl h
    · rcases k with k | ⟨rfl, k⟩
      · exact Or.inl k
      · exact Or.inr ⟨rfl, lc_trans h k⟩
theorem lc_tri : ∀ {a b : List Nat}, ltCps a b = false → ltCps b a = false → a = b
  | [], [], _, _ => rfl
  | [], _ :: _, h, _ => by cases h
  | _ :: _, [], _, h => by cases h
  | x :: a, y :: b, h, k => by
    simp only [ltCps, Bool.or_eq_false_iff, decide_eq_false_iff_not, Bool.and_eq_false_iff, beq_eq_false_iff_ne] at h k
    have e : x = y := by omega
    subst e
    rw [lc_tri (h.2.resolve_left fun q => q rfl) (k.2.resolve_left fun q => q rfl)]
/-- x stands ahead of y -/
def ahead (x y : Str) : Bool := ltCps (cd x) (cd y)
theorem ahead_irr (x : Str) : ahead x x = false := lc_irr _
theorem ahead_trans {x y z : Str} (h : ahead x y = true) (k : ahead y z = true) : ahead x z = true := lc_trans h k
theorem ahead_tri {x y : Str} (h : ahead x y = false) (k : ahead y x = false) : x = y := cd_inj (lc_tri h k)
/-- each stands ahead of the next ones -/
def Rise (l : List Str) : Prop := l.Pairwise fun a b => ahead a b = true
def insS (x : Str) : List Str → List Str
  | [] => [x]
  | y :: r => if ahead x y = true then x :: y :: r else if x = y then y :: r else y :: insS x r
def rise (l : List Str) : List Str := l.foldr insS []
theorem mem_ins {x z : Str} : ∀ {l : List Str}, z ∈ insS x l ↔ z = x ∨ z ∈ l
  | [] => by simp [insS]
  | y :: r => by
    unfold insS
    split
    · simp
    · split
      · rename_i e
        subst e
        simp
      · rw [List.mem_cons, mem_ins, List.mem_cons]
        constructor
        · rintro (h | h | h)
          · exact Or.inr (Or.inl h)
          · exact Or.inl h
          · exact Or.inr (Or.inr h)
        · rintro (h | h | h)
          · exact Or.inr (Or.inl h)
          · exact Or.inl h
          · exact Or.inr (Or.inr h)
theorem rise_ins {x : Str} : ∀ {l : List Str}, Rise l → Rise (insS x l)
  | [], _ => List.pairwise_singleton _ _
  | y :: r, h => by
    obtain ⟨h1, h2⟩ := List.pairwise_cons.mp h
    unfold insS
    split
    · rename_i e
      refine List.pairwise_cons.mpr ⟨fun z hz => ?_, h⟩
      rcases List.mem_cons.mp hz with rfl | hz
      · exact e
      · exact ahead_trans e (h1 z hz)
    · split
      · exact h
      · rename_i e ne
        refine List.pairwise_cons.mpr ⟨fun z hz => ?_, rise_ins h2⟩
        rcases mem_ins.mp hz with rfl | hz
        · cases q : ahead y z with
          | true => rfl
          | false =>
            refine absurd (ahead_tri ?_ q) ne
            cases w : ahead z y with
            | false => rfl
            | true => exact absurd w e
        · exact h1 z hz
theorem rise_rise : ∀ l : List Str, Rise (rise l)
  | [] => List.Pairwise.nil
  | x :: r => rise_ins (rise_rise r)
theorem mem_rise {z : Str} : ∀ {l : List Str}, z ∈ rise l ↔ z ∈ l
  | [] => Iff.rfl
  | x :: r => by
    show z ∈ insS x (rise r) ↔ _
    rw [mem_ins, mem_rise, List.mem_cons]
/-- rows that rise and have the same texts are one -/
theorem rise_ext : ∀ {a b : List Str}, Rise a → Rise b → (∀ x, x ∈ a ↔ x ∈ b) → a = b
  | [], [], _, _, _ => rfl
  | [], y :: b, _, _, h => by cases (h y).mpr List.mem_cons_self
  | x :: a, [], _, _, h => by cases (h x).mp List.mem_cons_self
  | x :: a, y :: b, ha, hb, h => by
    obtain ⟨ha1, ha2⟩ := List.pairwise_cons.mp ha
    obtain ⟨hb1, hb2⟩ := List.pairwise_cons.mp hb
    have e : x = y := by
      rcases List.mem_cons.mp ((h x).mp List.mem_cons_self) with e | hx
      · exact e
      · rcases List.mem_cons.mp ((h y).mpr List.mem_cons_self) with e | hy
        · exact e.symm
        · have := ahead_trans (hb1 x hx) (ha1 y hy)
          rw [ahead_irr] at this
          cases this
    subst e
    rw [rise_ext ha2 hb2 fun z => ?_]
    constructor
    · intro hz
      rcases List.mem_cons.mp ((h z).mp (List.mem_cons_of_mem _ hz)) with e | hz2
      · rw [e] at hz
        have := ha1 x hz
        rw [ahead_irr] at this
        cases this
      · exact hz2
    · intro hz
      rcases List.mem_cons.mp ((h z).mpr (List.mem_cons_of_mem _ hz)) with e | hz2
      · rw [e] at hz
        have := hb1 x hz
        rw [ahead_irr] at this
        cases this
      · exact hz2
theorem rising_pw : ∀ {l : List Str} {p : Str}, risingS p l = true → (∀ x ∈ l, ahead x p = false) ∧ l.Pairwise fun a b => ahead b a = false
  | [], _, _ => ⟨fun x hx => (by cases hx), List.Pairwise.nil⟩
  | x :: r, p, h => by
    obtain ⟨h1, h2⟩ := Bool.and_eq_true_iff.mp h
    have hxp : ahead x p = false := by
      cases q : ahead x p with
      | false => rfl
      | true =>
        have h1 : (!ahead x p) = true := h1
        rw [q] at h1
        cases h1
    obtain ⟨k1, k2⟩ := rising_pw h2
    refine ⟨fun z hz => ?_, List.pairwise_cons.mpr ⟨k1, k2⟩⟩
    rcases List.mem_cons.mp hz with rfl | hz
    · exact hxp
    · have hzx := k1 z hz
      cases q : ahead z p with
      | false => rfl
      | true =>
        cases w : ahead p x with
        | true =>
          have := ahead_trans q w
          rw [hzx] at this
          cases this
        | false =>
          have e := ahead_tri hxp w
          rw [e] at hzx
          rw [hzx] at q
          cases q
theorem sorted_pw {l : List Str} (h : sortedS l = true) : l.Pairwise fun a b => ahead b a = false := by
  cases l with
  | nil => exact List.Pairwise.nil
  | cons x r =>
    obtain ⟨h1, h2⟩ := rising_pw (p := x) (l := r) h
    exact List.pairwise_cons.mpr ⟨h1, h2⟩
/-- the next of a sorted row, if it is new, rises behind what stands -/
theorem rise_snoc {rs ys : List Str} {j : Nat} {y : Str} (hr : Rise rs) (hm : ∀ x, x ∈ rs ↔ x ∈ ys.take j) (hs : sortedS ys = true) (hy : ys[j]? = some y) (nin : y ∉ rs) : Rise (rs ++ [y]) := by
  refine List.pairwise_append.mpr ⟨hr, List.pairwise_singleton _ _, fun a ha b hb => ?_⟩
  rw [List.mem_singleton.mp hb]
  have pw := sorted_pw hs
  have ha2 := (hm a).mp ha
  obtain ⟨i, hi⟩ := List.getElem?_of_mem ha2
  have hij : i < j := by
    by_cases lt : i < j
    · exact lt
    · rw [List.getElem?_eq_none (by rw [List.length_take]; omega)] at hi
      cases hi
  rw [List.getElem?_take_of_lt hij] at hi
  have li : i < ys.length := by
    by_cases lt : i < ys.length
    · exact lt
    · rw [List.getElem?_eq_none (by omega)] at hi
      cases hi
  have lj : j < ys.length := by
    by_cases lt : j < ys.length
    · exact lt
    · rw [List.getElem?_eq_none (by omega)] at hy
      cases hy
  have e1 : ys[i] = a := by
    rw [List.getElem?_eq_getElem li] at hi
    exact Option.some.inj hi
  have e2 : ys[j] = y := by
    rw [List.getElem?_eq_getElem lj] at hy
    exact Option.some.inj hy
  have h := (List.pairwise_iff_getElem.mp pw) i j li lj hij
  rw [e1, e2] at h
  cases q : ahead a y with
  | true => rfl
  | false => exact absurd (ahead_tri h q) (by rintro rfl; exact nin ha)
end Pg

namespace K02
open PySem PySem.Spec PyProof.Rows L2 Pg
def topS (i : Nat) : Stmt := PySem.Challenge.pw_pagesatonce_k02_segments_of_texts.main.body.getD i (.Pass ⟨0, 0, 0, 0⟩)
abbrev s_law_cell : Stmt := topS 12
theorem sc_law_cell : FnScope ["script", "k"] ["script", "k"] (defScope s_law_cell) := ⟨rfl, rfl, rfl, by decide +kernel, rfl, by decide +kernel, by decide +kernel⟩
abbrev s_law_digits : Stmt := topS 13
theorem sc_law_digits : FnScope ["script", "first", "last", "digits", "k", "cell", "turn", "seed"] ["script", "first", "last"] (defScope s_law_digits) := ⟨rfl, rfl, rfl, by decide +kernel, rfl, by decide +kernel, by decide +kernel⟩
abbrev s_law_is_name : Stmt := topS 14
theorem sc_law_is_name : FnScope ["text", "sign"] ["text"] (defScope s_law_is_name) := ⟨rfl, rfl, rfl, by decide +kernel, rfl, by decide +kernel, by decide +kernel⟩
abbrev s_law_draw : Stmt := topS 17
theorem sc_law_draw : FnScope ["box", "many", "at"] ["box", "many"] (defScope s_law_draw) := ⟨rfl, rfl, rfl, by decide +kernel, rfl, by decide +kernel, by decide +kernel⟩
abbrev s_law_name : Stmt := topS 18
theorem sc_law_name : FnScope ["box"] ["box"] (defScope s_law_name) := ⟨rfl, rfl, rfl, by decide +kernel, rfl, by decide +kernel, by decide +kernel⟩
abbrev s_law_text : Stmt := topS 19
theorem sc_law_text : FnScope ["box", "most", "text", "turn", "name", "kind"] ["box", "most"] (defScope s_law_text) := ⟨rfl, rfl, rfl, by decide +kernel, rfl, by decide +kernel, by decide +kernel⟩
abbrev s_law_alike : Stmt := topS 22
theorem sc_law_alike : FnScope ["one", "two"] ["one", "two"] (defScope s_law_alike) := ⟨rfl, rfl, rfl, by decide +kernel, rfl, by decide +kernel, by decide +kernel⟩
abbrev s_law_bracket : Stmt := topS 15
theorem sc_law_bracket : FnScope ["name", "text", "at", "end", "skip", "inner"] ["name", "text", "at"] (defScope s_law_bracket) := ⟨rfl, rfl, rfl, by decide +kernel, rfl, by decide +kernel, by decide +kernel⟩
abbrev s_law_split : Stmt := topS 16
theorem sc_law_split : FnScope ["name", "text", "found", "at", "told"] ["name", "text"] (defScope s_law_split) := ⟨rfl, rfl, rfl, by decide +kernel, rfl, by decide +kernel, by decide +kernel⟩
abbrev s_is_name : Stmt := topS 2
theorem sc_is_name : FnScope ["text", "sign"] ["text"] (defScope s_is_name) := ⟨rfl, rfl, rfl, by decide +kernel, rfl, by decide +kernel, by decide +kernel⟩
abbrev s_is_after : Stmt := topS 3
theorem sc_is_after : FnScope ["one", "other"] ["one", "other"] (defScope s_is_after) := ⟨rfl, rfl, rfl, by decide +kernel, rfl, by decide +kernel, by decide +kernel⟩
abbrev s_plain : Stmt := topS 8
theorem sc_plain : FnScope ["characters"] ["characters"] (defScope s_plain) := ⟨rfl, rfl, rfl, by decide +kernel, rfl, by decide +kernel, by decide +kernel⟩
abbrev s_text_of : Stmt := topS 10
theorem sc_text_of : FnScope ["segment", "kind", "characters", "before", "behind"] ["segment"] (defScope s_text_of) := ⟨rfl, rfl, rfl, by decide +kernel, rfl, by decide +kernel, by decide +kernel⟩
abbrev s_segment_at : Stmt := topS 9
theorem sc_segment_at : FnScope ["name", "text", "at", "kind", "before", "behind", "start", "end", "inner"] ["name", "text", "at"] (defScope s_segment_at) := ⟨rfl, rfl, rfl, by decide +kernel, rfl, by decide +kernel, by decide +kernel⟩
abbrev s_split : Stmt := topS 6
theorem sc_split : FnScope ["name", "text", "segments", "done", "at", "segment"] ["name", "text"] (defScope s_split) := ⟨rfl, rfl, rfl, by decide +kernel, rfl, by decide +kernel, by decide +kernel⟩
abbrev s_join : Stmt := topS 7
theorem sc_join : FnScope ["segments", "segment"] ["segments"] (defScope s_join) := ⟨rfl, rfl, rfl, by decide +kernel, rfl, by decide +kernel, by decide +kernel⟩
abbrev s_law : Stmt := topS 23
theorem sc_law : FnScope ["script", "box", "turn", "name", "text", "at", "found", "k"] ["script"] (defScope s_law) := ⟨rfl, rfl, rfl, by decide +kernel, rfl, by decide +kernel, by decide +kernel⟩
structure Z (mg : Str → Option Value) : Prop where
  «len» : mg "len" = none
  «range» : mg "range" = none
  «int» : mg "int" = none
  «repr» : mg "repr" = none
  «max» : mg "max" = none
  «all» : mg "all" = none
  c_NAME_MOST : ∃ t, mg "NAME_MOST" = some (.int 6 t)
end K02

namespace K02
open PySem PySem.Spec PyProof.Rows L2 Pg
/-! ### what the helpers of the law promise -/
/-- a cell of the script, or 0 -/
def spCell (K : PySem.W.Frag) : Sp := fun vs H Q _ => ∃ (l : Addr) (ns : List Int) (k : Nat), vs = [.ref l, .int (k : Nat)] ∧ SqL K H l (ns.map V.int) ∧ ∀ c : Int, Q (.int c) H
/-- a new list of some whole numbers -/
def spDigits (K : PySem.W.Frag) : Sp := fun vs H Q _ => ∃ (l : Addr) (ns : List Int) (a b : Nat), vs = [.ref l, .int (a : Nat), .int (b : Nat)] ∧ SqL K H l (ns.map V.int) ∧ a ≤ 63 ∧ b ≤ 63 ∧
  ∀ (H' : Hp) (p : Addr) (ds : List Int), Same H H' → H p = none → H' p = some (.lst (ds.map V.int)) → ds.length ≤ 4000 → Q (.ref p) H'
/-- the box of the draws: its digits stand at d -/
def BoxAt (H : Hp) (b d : Addr) : Prop := ∃ (ds : List Int) (n : Nat), H b = some (.lst [.ref d, .int (n : Nat)]) ∧ H d = some (.lst (ds.map V.int)) ∧ d ≠ b ∧ ds.length ≤ 4000
def Box (H : Hp) (b : Addr) : Prop := ∃ d, BoxAt H b d
/-- all but the box is as it was -/
structure Drew (b : Addr) (H H' : Hp) : Prop where
  box : Box H' b
  dig : ∀ d, BoxAt H b d → BoxAt H' b d
  keep : ∀ p o, p ≠ b → H p = some o → H' p = some o
theorem Drew.trans {b : Addr} {H H1 H2 : Hp} (x : Drew b H H1) (y : Drew b H1 H2) : Drew b H H2 := ⟨y.box, fun d e => y.dig d (x.dig d e), fun p o n e => y.keep p o n (x.keep p o n e)⟩
theorem BoxAt.same {b d : Addr} {H H' : Hp} (x : BoxAt H b d) (s : Same H H') : BoxAt H' b d := by
  obtain ⟨ds, n, e1, e2, ne, few⟩ := x
  exact ⟨ds, n, s _ _ e1, s _ _ e2, ne, few⟩
theorem BoxAt.upd {b d p : Addr} {H : Hp} {o : HO} (x : BoxAt H b d) (n1 : p ≠ b) (n2 : p ≠ d) : BoxAt (upd H p o) b d := by
  obtain ⟨ds, n, e1, e2, ne, few⟩ := x
  exact ⟨ds, n, by rw [upd_ne n1.symm]; exact e1, by rw [upd_ne n2.symm]; exact e2, ne, few⟩
theorem BoxAt.ne {b d p : Addr} {H : Hp} (x : BoxAt H b d) (n : H p = none) : p ≠ b ∧ p ≠ d := by
  obtain ⟨ds, m, e1, e2, _⟩ := x
  exact ⟨(ne_of_none e1 n).symm, (ne_of_none e2 n).symm⟩
theorem Box.same {b : Addr} {H H' : Hp} (x : Box H b) (s : Same H H') : Box H' b := let ⟨d, e⟩ := x; ⟨d, e.same s⟩
theorem Box.ne {b p : Addr} {H : Hp} (x : Box H b) (n : H p = none) : p ≠ b := let ⟨_, e⟩ := x; (e.ne n).1
theorem Drew.same {b : Addr} {H H1 H2 : Hp} (x : Drew b H H1) (s : Same H1 H2) : Drew b H H2 := ⟨x.box.same s, fun d e => (x.dig d e).same s, fun p o n e => s _ _ (x.keep p o n e)⟩
theorem Drew.of {b : Addr} {H H' : Hp} (x : Box H b) (s : Same H H') : Drew b H H' := ⟨x.same s, fun d e => e.same s, fun p o _ e => s _ _ e⟩
theorem same_new {H : Hp} {p : Addr} {o : HO} (h : H p = none) : Same H (upd H p o) := by
  intro b x e
  rw [upd_ne (ne_of_none e h)]
  exact e
theorem small5 {n : Nat} (h : n ≤ 100000) : n < sizeLine := Nat.lt_of_le_of_lt h (by decide)
def spDraw : Sp := fun vs H Q _ => ∃ (b : Addr) (many : Int), vs = [.ref b, .int many] ∧ 0 < many ∧ Box H b ∧ ∀ (r : Int) (H' : Hp), 0 ≤ r → r < many → Drew b H H' → Q (.int r) H'
def names8 : List Str := ["a", "b", "c", "d", "e", "ab", "bc", "cd"]
def spName : Sp := fun vs H Q _ => ∃ b : Addr, vs = [.ref b] ∧ Box H b ∧ ∀ (z : Str) (H' : Hp), z ∈ names8 → Drew b H H' → Q (.str z) H'
section
variable {P : Program} {w : World} {K : PySem.W.Frag} {mg : Str → Option Value} {base : Heap} {f : Addr} {fd : FuncData}
theorem ok_law_cell (F : Fun K "_law_cell" "_law_cell" s_law_cell f fd) (z : Z mg) : FnOk P w K mg base CX0 1 f fd ["script", "k"] (spCell K) := by
  refine F.ok sc_law_cell (fun vs H Q E h => ?_) (fun cdv A outer s H vs Q E hr h => ?_)
  · obtain ⟨l, ns, k, rfl, _⟩ := h
    rfl
  · obtain ⟨l, ns, k, rfl, hs, q⟩ := h
    refine ⟨_, (pss_cons (ps_if (pt_cmpR op_lt (pv 1) (pe_callB call_len_seq (by rfl) z.len PySem.boot_len (pa_cons (pv 0) pa_nil)) (nomark _))
        (pss_one (ps_ret (pe_ix ix_list (pv 0) (pv 1) (fun _ _ => rfl))))
        pss_nil)
      (pss_one (ps_ret pe_int))), ?_⟩
    refine ⟨_, rfl, .ref l, rfl, l, ns.map V.int, rfl, .inl hs, _, _, rfl, rfl, _, rfl, ite2 (fun e => ?_) (fun e => ?_)⟩
    · have lt : k < ns.length := by
        have e := of_decide_eq_true e
        rw [List.length_map] at e
        omega
      exact ⟨.ref l, rfl, _, rfl, l, _, _, _, rfl, rfl, hs, atI_nat (j := k) (by rw [List.getElem?_map, List.getElem?_eq_getElem lt]; rfl), q _⟩
    · exact q 0
theorem ok_law_draw (F : Fun K "_law_draw" "_law_draw" s_law_draw f fd) (z : Z mg) : FnOk P w K mg base CX0 1 f fd ["box", "many"] spDraw := by
  refine F.ok sc_law_draw (fun vs H Q E h => ?_) (fun cdv A outer s H vs Q E hr h => ?_)
  · obtain ⟨b, many, rfl, _⟩ := h
    rfl
  · obtain ⟨b, many, rfl, hm, ⟨d, ds, n, hb, hd, ne, few⟩, q⟩ := h
    refine ⟨_, (pss_cons (ps_set (i := 2) sc_law_draw.nd rfl (Or.inl rfl) (pe_ix ix_list (pv 0) pe_int (fun _ _ => rfl)))
      (pss_cons (ps_asg (pe_op op_add (pv 2) pe_int) (pg_sub (pv 0) pe_int set_list))
      (pss_cons (ps_if (pt_cmpR op_lt (pv 2) (pe_callB call_len_seq (by rfl) z.len PySem.boot_len (pa_cons (pe_ix ix_list (pv 0) pe_int (fun _ _ => rfl)) pa_nil)) (nomark _))
        (pss_one (ps_ret (pe_op op_mod (pe_callTy call_int1 (by rfl) z.int (by decide +kernel) (pa_cons (pe_ix ix_list (pe_ix ix_list (pv 0) pe_int (fun _ _ => rfl)) (pv 2) (fun _ _ => rfl)) pa_nil)) (pv 1))))
        pss_nil)
      (pss_one (ps_ret (pe_op op_mod (pe_callTy call_int1 (by rfl) z.int (by decide +kernel) (pa_cons (pe_op op_add (pe_op op_mul (pv 2) pe_int) pe_int) pa_nil)) (pv 1))))))), ?_⟩
    have hB : ∀ {H : Hp} {m : Int}, H b = some (.lst [.ref d, .int m]) → SqL K H b [.ref d, .int m] := fun e => .inl (.inl e)
    -- one draw further
    refine ⟨.ref b, rfl, b, _, _, .int (n : Nat), rfl, rfl, hB hb, rfl, ?_⟩
    refine ⟨_, rfl, _, _, rfl, rfl, .ref b, rfl, b, _, _, 1, rfl, rfl, hb, rfl, ?_⟩
    have hb' : (upd H b (.lst ([.ref d, .int (n : Nat)].set 1 (.int ((n : Nat) + 1))))) b = some (.lst [.ref d, .int ((n + 1 : Nat) : Int)]) := upd_same
    have hd' : (upd H b (.lst ([.ref d, .int (n : Nat)].set 1 (.int ((n : Nat) + 1))))) d = some (.lst (ds.map V.int)) := by rw [upd_ne ne]; exact hd
    have dr : Drew b H (upd H b (.lst ([.ref d, .int (n : Nat)].set 1 (.int ((n : Nat) + 1))))) := ⟨⟨d, ds, n + 1, hb', hd', ne, few⟩, fun d' B => by
      obtain ⟨ds', n', e1, e2, ne', few'⟩ := B
      rw [hb] at e1
      cases e1
      exact ⟨ds, n + 1, hb', hd', ne, few⟩, fun p o np e => by rw [upd_ne np]; exact e⟩
    -- if at < len(box[0])
    refine ⟨_, rfl, .ref b, rfl, b, _, _, .ref d, rfl, rfl, hB hb', rfl, d, _, rfl, .inl (.inl (.inl hd')), _, _, rfl, rfl, _, rfl, ite2 (fun e => ?_) (fun e => ?_)⟩
    · have lt : n < ds.length := by
        have e := of_decide_eq_true e
        rw [List.length_map] at e
        omega
      refine ⟨.ref b, rfl, b, _, _, .ref d, rfl, rfl, hB hb', rfl, _, rfl, d, _, _, .int ds[n], rfl, rfl, .inl (.inl hd'), atI_nat (j := n) (by rw [List.getElem?_map, List.getElem?_eq_getElem lt]; rfl), .inl ⟨_, rfl, ?_⟩⟩
      exact ⟨_, rfl, _, _, rfl, rfl, hm, q _ _ (Int.emod_nonneg _ (by omega)) (Int.emod_lt_of_pos _ hm) dr⟩
    · refine ⟨_, rfl, _, _, rfl, rfl, .inr ⟨by decide, by decide⟩, _, _, rfl, rfl, .inl ⟨_, rfl, ?_⟩⟩
      exact ⟨_, rfl, _, _, rfl, rfl, hm, q _ _ (Int.emod_nonneg _ (by omega)) (Int.emod_lt_of_pos _ hm) dr⟩
theorem ok_law_digits (F : Fun K "_law_digits" "_law_digits" s_law_digits f fd) (z : Z mg) (claw_cell : Cal P w K mg base "_law_cell" 1 ["script", "k"] (spCell K)) :
    FnOk P w K mg base CX0 2 f fd ["script", "first", "last"] (spDigits K) := by
  refine F.ok sc_law_digits (fun vs H Q E h => ?_) (fun cdv A outer s H vs Q E hr h => ?_)
  · obtain ⟨l, ns, a, b, rfl, _⟩ := h
    rfl
  · obtain ⟨l, ns, a, b, rfl, hs, ha, hb, q⟩ := h
    refine ⟨_, (pss_cons (ps_set (i := 3) sc_law_digits.nd rfl (Or.inl rfl) (pe_lst pa_nil))
      (pss_cons (ps_for PassesOwn.never rfl (pi_range2 (by rfl) z.range (pa_cons (pv 1) (pa_cons (pv 2) pa_nil))) (pg_name (i := 4) sc_law_digits.nd rfl (Or.inl rfl))
        (pss_cons (ps_set (i := 5) sc_law_digits.nd rfl (Or.inl rfl) (pe_cal claw_cell (hr.mono (by decide)) (by rfl) (pa_cons (pv 0) (pa_cons (pv 4) pa_nil))))
        (pss_cons (ps_if (pt_cmpR op_lt (pv 5) pe_int (nomark _))
          (pss_one (ps_set (i := 5) sc_law_digits.nd rfl (Or.inl rfl) (pe_op op_sub pe_int (pe_op op_mul pe_int (pv 5)))))
          pss_nil)
        (pss_one (ps_if (pt_cmpR op_ge (pv 5) pe_int (nomark _))
          (pss_one (ps_for PassesOwn.never rfl (pi_range1 (by rfl) z.range (pa_cons pe_int pa_nil)) (pg_name (i := 6) sc_law_digits.nd rfl (Or.inl rfl))
            (pss_one (ps_if (pt_cmpR op_gt (pv 5) pe_int (nomark _))
              (pss_cons (ps_expr (pe_bm PySem.F.plainAttrs_list PySem.F.slot_list_append PySem.F.type_list_append mt_append (pv 3) (pa_cons (pe_op op_mod (pe_callTy call_int1 (by rfl) z.int (by decide +kernel) (pa_cons (pv 5) pa_nil)) pe_int) pa_nil)))
              (pss_one (ps_set (i := 5) sc_law_digits.nd rfl (Or.inl rfl) (pe_op op_fdiv (pv 5) pe_int))))
              pss_nil))))
          (pss_cons (ps_set (i := 7) sc_law_digits.nd rfl (Or.inl rfl) (pe_op op_mod (pe_callTy call_int1 (by rfl) z.int (by decide +kernel) (pa_cons (pe_op op_add (pe_op op_add (pe_op op_mul (pv 5) pe_int) (pe_op op_mul (pv 4) pe_int)) pe_int) pa_nil)) pe_int))
          (pss_one (ps_for PassesOwn.never rfl (pi_range1 (by rfl) z.range (pa_cons pe_int pa_nil)) (pg_name (i := 6) sc_law_digits.nd rfl (Or.inl rfl))
            (pss_cons (ps_set (i := 7) sc_law_digits.nd rfl (Or.inl rfl) (pe_op op_mod (pe_callTy call_int1 (by rfl) z.int (by decide +kernel) (pa_cons (pe_op op_add (pe_op op_add (pe_op op_mul (pv 7) pe_int) (pe_op op_mul pe_int (pv 6))) pe_int) pa_nil)) pe_int))
            (pss_one (ps_expr (pe_bm PySem.F.plainAttrs_list PySem.F.slot_list_append PySem.F.type_list_append mt_append (pv 3) (pa_cons (pe_op op_mod (pe_callTy call_int1 (by rfl) z.int (by decide +kernel) (pa_cons (pe_op op_fdiv (pv 7) pe_int) pa_nil)) pe_int) pa_nil)))))))))))))
      (pss_one (ps_ret (pv 3))))), ?_⟩
    -- digits = []
    refine ⟨Nat.zero_le _, fun D nD => ?_⟩
    -- cell by cell
    refine ⟨_, rfl, _, rfl, _, _, rfl, ⟨by omega, by omega, by omega, by omega⟩, ?_⟩
    refine for_range (lo := (a : Int)) (n := ((b : Int) - (a : Int)).toNat) (fun i σ H3 => ∃ (y4 y5 y6 y7 : Option V) (ds : List Int), σ = [some (.ref l), some (.int (a : Nat)), some (.int (b : Nat)), some (.ref D), y4, y5, y6, y7] ∧
      Same H H3 ∧ H3 D = some (.lst (ds.map V.int)) ∧ ds.length ≤ 60 * i) ⟨none, none, none, none, [], rfl, same_new nD, upd_same, Nat.zero_le _⟩ ?_ ?_
    · rintro i σ H3 hi ⟨y4, y5, y6, y7, ds, rfl, sm, hD, few⟩
      have hi' : i < 63 := by omega
      -- a cell
      refine ⟨.ref l, rfl, .int ((a : Int) + i), rfl, l, ns, a + i, by simp, sm.seq hs, fun c => ?_⟩
      have appd : ∀ {H4 : Hp} {es : List Int} (x : Int), H4 D = some (.lst (es.map V.int)) → Same H H4 → Same H (upd H4 D (.lst (es.map V.int ++ [.int x]))) := fun x e s p o q => by
        rw [upd_ne (ne_of_none q nD)]
        exact s p o q
      -- if cell < 0
      refine ⟨_, rfl, _, _, rfl, rfl, _, rfl, ite2 (fun _ => ?_) (fun _ => ?_)⟩
      · refine ⟨_, rfl, _, _, rfl, rfl, .inl ⟨by decide, by decide⟩, _, _, rfl, rfl, ?_⟩
        refine ⟨_, rfl, _, _, rfl, rfl, _, rfl, ite2 (fun _ => ?_) (fun _ => ?_)⟩
        · -- sixty turns
          refine ⟨60, rfl, by decide, by decide, ?_⟩
          refine for_range (lo := 0) (n := 60) (fun j σ H4 => ∃ (x6 x7 : Option V) (c : Int) (es : List Int), σ = [some (.ref l), some (.int (a : Nat)), some (.int (b : Nat)), some (.ref D), some (.int ((a : Int) + i)), some (.int c), x6, x7] ∧
            Same H H4 ∧ H4 D = some (.lst (es.map V.int)) ∧ es.length ≤ ds.length + j) ⟨_, _, _, ds, rfl, sm, hD, Nat.le_refl _⟩ ?_ ?_
          · rintro j σ H4 hj ⟨x6, x7, c, es, rfl, sm4, hD4, few4⟩
            refine ⟨_, rfl, _, _, rfl, rfl, _, rfl, ite2 (fun _ => ?_) (fun _ => ?_)⟩
            · refine ⟨.ref D, rfl, .inl ⟨rfl, _, .inl (.inl hD4)⟩, _, rfl, .inl ⟨_, rfl, ?_⟩⟩
              refine ⟨_, _, rfl, rfl, (by show (0 : Int) < 1000; decide), D, _, _, rfl, rfl, hD4, small5 (by rw [List.length_map]; omega), ?_⟩
              exact ⟨_, rfl, _, _, rfl, rfl, ⟨by decide, by decide⟩, _, _, _, es ++ [c % 1000], rfl, appd _ hD4 sm4, by rw [upd_same, List.map_append]; rfl, by rw [List.length_append]; simp only [List.length_singleton]; omega⟩
            · exact ⟨_, _, _, es, rfl, sm4, hD4, by omega⟩
          · rintro σ H4 ⟨x6, x7, c, es, rfl, sm4, hD4, few4⟩
            exact ⟨_, _, _, _, es, rfl, sm4, hD4, by omega⟩
        · -- twelve turns
          refine ⟨_, rfl, _, _, rfl, rfl, .inr ⟨by decide, by decide⟩, _, rfl, _, _, rfl, rfl, .inr ⟨by decide, by decide⟩, _, _, rfl, rfl, _, _, rfl, rfl, .inl ⟨_, rfl, ?_⟩⟩
          refine ⟨_, _, rfl, rfl, (by show (0 : Int) < 2147483399; decide), ?_⟩
          refine ⟨12, rfl, by decide, by decide, ?_⟩
          refine for_range (lo := 0) (n := 12) (fun j σ H4 => ∃ (x5 x6 : Option V) (c : Int) (es : List Int), σ = [some (.ref l), some (.int (a : Nat)), some (.int (b : Nat)), some (.ref D), some (.int ((a : Int) + i)), x5, x6, some (.int c)] ∧
            Same H H4 ∧ H4 D = some (.lst (es.map V.int)) ∧ es.length ≤ ds.length + j) ⟨_, _, _, ds, rfl, sm, hD, Nat.le_refl _⟩ ?_ ?_
          · rintro j σ H4 hj ⟨x5, x6, c, es, rfl, sm4, hD4, few4⟩
            refine ⟨_, rfl, _, _, rfl, rfl, .inr ⟨by decide, by decide⟩, _, rfl, _, _, rfl, rfl, .inl ⟨by decide, by decide⟩, _, _, rfl, rfl, _, _, rfl, rfl, .inl ⟨_, rfl, ?_⟩⟩
            refine ⟨_, _, rfl, rfl, (by show (0 : Int) < 2147483563; decide), ?_⟩
            refine ⟨.ref D, rfl, .inl ⟨rfl, _, .inl (.inl hD4)⟩, _, rfl, _, _, rfl, rfl, ⟨by decide, by decide⟩, .inl ⟨_, rfl, ?_⟩⟩
            refine ⟨_, _, rfl, rfl, (by show (0 : Int) < 1000; decide), D, _, _, rfl, rfl, hD4, small5 (by rw [List.length_map]; omega), ?_⟩
            exact ⟨_, _, _, es ++ [_], rfl, appd _ hD4 sm4, by rw [upd_same, List.map_append]; rfl, by rw [List.length_append]; simp only [List.length_singleton]; omega⟩
          · rintro σ H4 ⟨x5, x6, c, es, rfl, sm4, hD4, few4⟩
            exact ⟨_, _, _, _, es, rfl, sm4, hD4, by omega⟩
      · skip
        refine ⟨_, rfl, _, _, rfl, rfl, _, rfl, ite2 (fun _ => ?_) (fun _ => ?_)⟩
        · -- sixty turns
          refine ⟨60, rfl, by decide, by decide, ?_⟩
          refine for_range (lo := 0) (n := 60) (fun j σ H4 => ∃ (x6 x7 : Option V) (c : Int) (es : List Int), σ = [some (.ref l), some (.int (a : Nat)), some (.int (b : Nat)), some (.ref D), some (.int ((a : Int) + i)), some (.int c), x6, x7] ∧
            Same H H4 ∧ H4 D = some (.lst (es.map V.int)) ∧ es.length ≤ ds.length + j) ⟨_, _, _, ds, rfl, sm, hD, Nat.le_refl _⟩ ?_ ?_
          · rintro j σ H4 hj ⟨x6, x7, c, es, rfl, sm4, hD4, few4⟩
            refine ⟨_, rfl, _, _, rfl, rfl, _, rfl, ite2 (fun _ => ?_) (fun _ => ?_)⟩
            · refine ⟨.ref D, rfl, .inl ⟨rfl, _, .inl (.inl hD4)⟩, _, rfl, .inl ⟨_, rfl, ?_⟩⟩
              refine ⟨_, _, rfl, rfl, (by show (0 : Int) < 1000; decide), D, _, _, rfl, rfl, hD4, small5 (by rw [List.length_map]; omega), ?_⟩
              exact ⟨_, rfl, _, _, rfl, rfl, ⟨by decide, by decide⟩, _, _, _, es ++ [c % 1000], rfl, appd _ hD4 sm4, by rw [upd_same, List.map_append]; rfl, by rw [List.length_append]; simp only [List.length_singleton]; omega⟩
            · exact ⟨_, _, _, es, rfl, sm4, hD4, by omega⟩
          · rintro σ H4 ⟨x6, x7, c, es, rfl, sm4, hD4, few4⟩
            exact ⟨_, _, _, _, es, rfl, sm4, hD4, by omega⟩
        · -- twelve turns
          refine ⟨_, rfl, _, _, rfl, rfl, .inr ⟨by decide, by decide⟩, _, rfl, _, _, rfl, rfl, .inr ⟨by decide, by decide⟩, _, _, rfl, rfl, _, _, rfl, rfl, .inl ⟨_, rfl, ?_⟩⟩
          refine ⟨_, _, rfl, rfl, (by show (0 : Int) < 2147483399; decide), ?_⟩
          refine ⟨12, rfl, by decide, by decide, ?_⟩
          refine for_range (lo := 0) (n := 12) (fun j σ H4 => ∃ (x5 x6 : Option V) (c : Int) (es : List Int), σ = [some (.ref l), some (.int (a : Nat)), some (.int (b : Nat)), some (.ref D), some (.int ((a : Int) + i)), x5, x6, some (.int c)] ∧
            Same H H4 ∧ H4 D = some (.lst (es.map V.int)) ∧ es.length ≤ ds.length + j) ⟨_, _, _, ds, rfl, sm, hD, Nat.le_refl _⟩ ?_ ?_
          · rintro j σ H4 hj ⟨x5, x6, c, es, rfl, sm4, hD4, few4⟩
            refine ⟨_, rfl, _, _, rfl, rfl, .inr ⟨by decide, by decide⟩, _, rfl, _, _, rfl, rfl, .inl ⟨by decide, by decide⟩, _, _, rfl, rfl, _, _, rfl, rfl, .inl ⟨_, rfl, ?_⟩⟩
            refine ⟨_, _, rfl, rfl, (by show (0 : Int) < 2147483563; decide), ?_⟩
            refine ⟨.ref D, rfl, .inl ⟨rfl, _, .inl (.inl hD4)⟩, _, rfl, _, _, rfl, rfl, ⟨by decide, by decide⟩, .inl ⟨_, rfl, ?_⟩⟩
            refine ⟨_, _, rfl, rfl, (by show (0 : Int) < 1000; decide), D, _, _, rfl, rfl, hD4, small5 (by rw [List.length_map]; omega), ?_⟩
            exact ⟨_, _, _, es ++ [_], rfl, appd _ hD4 sm4, by rw [upd_same, List.map_append]; rfl, by rw [List.length_append]; simp only [List.length_singleton]; omega⟩
          · rintro σ H4 ⟨x5, x6, c, es, rfl, sm4, hD4, few4⟩
            exact ⟨_, _, _, _, es, rfl, sm4, hD4, by omega⟩
    · rintro σ H3 ⟨y4, y5, y6, y7, ds, rfl, sm, hD, few⟩
      exact ⟨.ref D, rfl, q H3 D ds sm nD hD (by omega)⟩
end
end K02

namespace K02
open PySem PySem.Spec PyProof.Rows L2 Pg
theorem seqT_same {K : PySem.W.Frag} {H H' : Hp} {a : Addr} {xs : List V} (e : Same H H') (h : SqT K H a xs) : SqT K H' a xs := by
  rcases h with (h | ⟨o, h⟩) | h
  · exact .inl (.inl (e _ _ h))
  · exact .inl (.inr ⟨o, e _ _ h⟩)
  · exact .inr h
theorem yes {σ : L2.St} {H : Hp} {Q : Bool → Hp → Prop} (h : Q true H) : tYes σ H Q := h
theorem Drew.pre {b : Addr} {H H1 H2 : Hp} (s : Same H H1) (x : Drew b H1 H2) : Drew b H H2 := ⟨x.box, fun d e => x.dig d (e.same s), fun p o n e => x.keep p o n (s _ _ e)⟩
theorem at_in {xs : List V} {r : Int} (h0 : 0 ≤ r) (h1 : r < xs.length) : ∃ v, v ∈ xs ∧ atI xs r = some v := by
  obtain ⟨j, rfl⟩ := Int.eq_ofNat_of_zero_le h0
  have lt : j < xs.length := by omega
  exact ⟨xs[j], List.getElem_mem lt, atI_nat (List.getElem?_eq_getElem lt)⟩
/-- plain signs, without the percent sign -/
def plainB (c : Nat) : Bool := decide (32 ≤ c ∧ c ≤ 126 ∧ c ≠ 37)
/-- .. and without the double quote -/
def safeB (c : Nat) : Bool := plainB c && decide (c ≠ 34)
def Plain (z : Str) : Prop := ∀ c ∈ z.cps.toList, plainB c = true
def Safe (z : Str) : Prop := ∀ c ∈ z.cps.toList, safeB c = true
theorem Safe.plain {z : Str} (h : Safe z) : Plain z := fun c hc => (Bool.and_eq_true_iff.mp (h c hc)).1
theorem app_codes (x y : Str) : (x ++ y).cps.toList = x.cps.toList ++ y.cps.toList := by
  show (x.cps ++ y.cps).toList = _
  rw [Array.toList_append]
theorem Safe.app {x y : Str} (a : Safe x) (b : Safe y) : Safe (x ++ y) := fun c hc => by
  rw [app_codes] at hc
  rcases List.mem_append.mp hc with h | h
  · exact a c h
  · exact b c h
theorem Plain.app {x y : Str} (a : Plain x) (b : Plain y) : Plain (x ++ y) := fun c hc => by
  rw [app_codes] at hc
  rcases List.mem_append.mp hc with h | h
  · exact a c h
  · exact b c h
theorem len_app (x y : Str) : (x ++ y).length = x.length + y.length := by
  show (x.cps ++ y.cps).size = _
  rw [Array.size_append]
  rfl
theorem len_codes (z : Str) : z.length = z.cps.toList.length := by simp [Str.length]
theorem safe_of {z : Str} (h : z.cps.toList.all safeB = true) : Safe z := fun c hc => List.all_eq_true.mp h c hc
/-- the first n signs -/
theorem cut_to (z : Str) (n : Nat) : (cutS z none (some (n : Int))).cps.toList = z.cps.toList.take n := by
  unfold cutS
  rw [HT.sIx_none, show HT.sIx z.length z.length (some (n : Int)) = min n z.length from HT.sIx_nat z.length z.length n]
  show List.take (min n z.length - 0) (List.drop 0 z.cps.toList) = _
  rw [List.drop_zero, Nat.sub_zero, len_codes, List.take_eq_take_iff]
  omega
theorem sizeLine_big {n : Nat} (h : n ≤ 1000000) : n ≤ sizeLine := Nat.le_trans h (by decide)
/-- data that repr shows -/
structure Shows (d : PyData) : Prop where
  ok : d.showable = true
  nd : d.hasDict = false
  dep : d.depth ≤ 40
  sz : d.shown.length ≤ sizeLine
def spAlike (K : PySem.W.Frag) : Sp := fun vs H Q _ => ∃ (x y : V) (d e : PyData), vs = [x, y] ∧ Dp K H x d ∧ Dp K H y e ∧ Shows d ∧ Shows e ∧ Q (.bl (decide (d.shown = e.shown))) H
theorem shows_int {i : Int} (h1 : -999999999999 ≤ i) (h2 : i ≤ 999999999999) : Shows (.int i) := by
  refine ⟨?_, rfl, by show 0 ≤ 40; decide, Nat.le_trans (PyData.shown_int_le2 h1 h2) (by decide)⟩
  show decide (i.natAbs.log2 < 1920) = true
  refine decide_eq_true ?_
  by_cases z : i.natAbs = 0
  · rw [z]
    decide
  · refine (Nat.log2_lt z).mpr (Nat.lt_of_lt_of_le (show i.natAbs < 2 ^ 40 by omega) (Nat.pow_le_pow_right (n := 2) (by decide) (by decide)))
theorem shows_int2 {i j : Int} (h1 : -999999999999 ≤ i) (h2 : i ≤ 999999999999) (h3 : -999999999999 ≤ j) (h4 : j ≤ 999999999999) : Shows (.tuple [.int i, .int j]) := by
  have a := (shows_int h1 h2).ok
  have b := (shows_int h3 h4).ok
  refine ⟨?_, rfl, by show 1 ≤ 40; decide, PyData.shown_fits_bulk (B := 13) (by decide) (by decide) ?_ (by show 0 + 1 + (0 + 1 + 0) ≤ 2 ^ 20; decide)⟩
  · simp only [PyData.showable, PyData.showableAll] at a b ⊢
    rw [a, b]
    rfl
  · simp only [PyData.leavesShort, PyData.leavesShortAll, PyData.shown_int_le2 h1 h2, PyData.shown_int_le2 h3 h4, decide_true, Bool.and_true]
section
variable {P : Program} {w : World} {K : PySem.W.Frag} {mg : Str → Option Value} {base : Heap} {f : Addr} {fd : FuncData}
theorem ok_law_alike (F : Fun K "_law_alike" "_law_alike" s_law_alike f fd) (z : Z mg) : FnG P w K mg base 1 f fd ["one", "two"] (spAlike K) := by
  refine FnG.mk' F sc_law_alike (fun vs H Q E h => ?_) (fun cdv A outer s H vs Q gd hr h => ?_)
  · obtain ⟨x, y, d, e, rfl, _⟩ := h
    rfl
  · obtain ⟨x, y, d, e, rfl, hd, he, gd1, gd2, q⟩ := h
    refine ⟨_, (pss_one (ps_ret (pe_cmpR op_eq (pe_callB (call_reprD gd hr.units) (by rfl) z.repr (by decide +kernel) (pa_cons (pv 0) pa_nil)) (pe_callB (call_reprD gd hr.units) (by rfl) z.repr (by decide +kernel) (pa_cons (pv 1) pa_nil)) (nomark _)))), ?_⟩
    refine ⟨x, rfl, x, d, rfl, hd, gd1.ok, gd1.nd, gd1.dep, gd1.sz, y, rfl, y, e, rfl, he, gd2.ok, gd2.nd, gd2.dep, gd2.sz, rfl, ?_⟩
    have eq : decide (V.str d.shown = V.str e.shown) = decide (d.shown = e.shown) := by
      by_cases h : d.shown = e.shown
      · rw [decide_eq_true h, h]
        exact decide_eq_true rfl
      · rw [decide_eq_false h]
        exact decide_eq_false fun e => h (V.str.inj e)
    show Q (.bl (decide (V.str d.shown = V.str e.shown))) H
    rw [eq]
    exact q
end
end K02

namespace K02
open PySem PySem.Spec PyProof.Rows L2 Pg
theorem names8_ok : ∀ z ∈ names8, z.length ≤ 2 ∧ z.cps.toList.all safeB = true := by decide +kernel
/-- what a text is made of -/
def parts (nm : Str) : List Str := [("<" ++ nm) ++ ">", ("<" ++ nm) ++ ">", ("<@" ++ nm) ++ ">", ("<@" ++ nm) ++ ">", ("[" ++ nm) ++ "]", ("[" ++ nm) ++ "]", "x", nm, "y z", "!", "<", "[>]"]
theorem parts_ok : ∀ nm ∈ names8, ∀ z ∈ parts nm, z.length ≤ 5 ∧ z.cps.toList.all safeB = true := by decide +kernel
theorem sum1 {x nm : Str} (hx : x.length ≤ 2) (h : nm.length ≤ 2) : x.length + nm.length ≤ sizeLine := sizeLine_big (by omega)
theorem sum2 {x nm y : Str} (hx : x.length ≤ 2) (h : nm.length ≤ 2) (hy : y.length ≤ 1) : (x ++ nm).length + y.length ≤ sizeLine := by
  rw [len_app]
  exact sizeLine_big (by omega)
def spText : Sp := fun vs H Q _ => ∃ (b : Addr) (most : Nat), vs = [.ref b, .int (most : Nat)] ∧ most ≤ 100 ∧ Box H b ∧ ∀ (z : Str) (H' : Hp), z.length ≤ 60 → Safe z → Drew b H H' → Q (.str z) H'
/-- a name: 1 to 6 letters -/
def nameB (z : Str) : Bool := z.cps.toList.all (fun c => decide (97 ≤ c ∧ c ≤ 122)) && decide (1 ≤ z.length ∧ z.length ≤ 6)
def spIsName : Sp := fun vs H Q _ => ∃ z : Str, vs = [.str z] ∧ z.length ≤ 1000 ∧ Q (.bl (nameB z)) H
def alphabet : Str := "abcdefghijklmnopqrstuvwxyz"
theorem alphabet_has : ∀ c : Nat, c ∈ alphabet.cps.toList ↔ 97 ≤ c ∧ c ≤ 122 := by
  have e : alphabet.cps.toList = List.range' 97 26 := by decide +kernel
  intro c
  rw [e, List.mem_range'_1]
  omega
section
variable {P : Program} {w : World} {K : PySem.W.Frag} {mg : Str → Option Value} {base : Heap} {f : Addr} {fd : FuncData}
theorem ok_law_name (F : Fun K "_law_name" "_law_name" s_law_name f fd) (z : Z mg) (claw_draw : Cal P w K mg base "_law_draw" 1 ["box", "many"] spDraw) : FnOk P w K mg base CX0 2 f fd ["box"] spName := by
  refine F.ok sc_law_name (fun vs H Q E h => ?_) (fun cdv A outer s H vs Q E hr h => ?_)
  · obtain ⟨b, rfl, _⟩ := h
    rfl
  · obtain ⟨b, rfl, hb, q⟩ := h
    refine ⟨_, (pss_one (ps_ret (pe_ix ix_list (pe_lst (pa_cons pe_str (pa_cons pe_str (pa_cons pe_str (pa_cons pe_str (pa_cons pe_str (pa_cons pe_str (pa_cons pe_str (pa_cons pe_str pa_nil))))))))) (pe_cal claw_draw (hr.mono (by decide)) (by rfl) (pa_cons (pv 0) (pa_cons pe_int pa_nil))) (fun _ _ => rfl)))), ?_⟩
    refine ⟨by show 8 ≤ sizeLine; decide, fun p np => ?_⟩
    refine ⟨.ref b, rfl, b, 8, rfl, by decide, hb.same (same_new np), fun r H' r0 r1 dr => ?_⟩
    have hp : H' p = some (.lst (names8.map V.str)) := dr.keep p _ (hb.ne np) upd_same
    obtain ⟨v, hv, at_v⟩ := at_in (xs := names8.map V.str) r0 r1
    obtain ⟨z, hz, rfl⟩ := List.mem_map.mp hv
    exact ⟨p, _, _, _, rfl, rfl, .inl (.inl hp), at_v, q z H' hz (dr.pre (same_new np))⟩
theorem ok_law_text (F : Fun K "_law_text" "_law_text" s_law_text f fd) (z : Z mg) (claw_draw : Cal P w K mg base "_law_draw" 1 ["box", "many"] spDraw) (claw_name : Cal P w K mg base "_law_name" 2 ["box"] spName) :
    FnOk P w K mg base CX0 3 f fd ["box", "most"] spText := by
  refine F.ok sc_law_text (fun vs H Q E h => ?_) (fun cdv A outer s H vs Q E hr h => ?_)
  · obtain ⟨b, most, rfl, _⟩ := h
    rfl
  · obtain ⟨b, most, rfl, hm, hb, q⟩ := h
    refine ⟨_, (pss_cons (ps_set (i := 2) sc_law_text.nd rfl (Or.inl rfl) pe_str)
      (pss_cons (ps_for PassesOwn.never rfl (pi_range1 (by rfl) z.range (pa_cons (pe_cal claw_draw (hr.mono (by decide)) (by rfl) (pa_cons (pv 0) (pa_cons (pe_op op_add (pv 1) pe_int) pa_nil))) pa_nil)) (pg_name (i := 3) sc_law_text.nd rfl (Or.inl rfl))
        (pss_cons (ps_set (i := 4) sc_law_text.nd rfl (Or.inl rfl) (pe_cal claw_name (hr.mono (by decide)) (by rfl) (pa_cons (pv 0) pa_nil)))
        (pss_cons (ps_set (i := 5) sc_law_text.nd rfl (Or.inl rfl) (pe_cal claw_draw (hr.mono (by decide)) (by rfl) (pa_cons (pv 0) (pa_cons pe_int pa_nil))))
        (pss_one (ps_set (i := 2) sc_law_text.nd rfl (Or.inl rfl) (pe_op op_add_str (pv 2) (pe_ix ix_list (pe_lst (pa_cons (pe_op op_add_str (pe_op op_add_str pe_str (pv 4)) pe_str) (pa_cons (pe_op op_add_str (pe_op op_add_str pe_str (pv 4)) pe_str) (pa_cons (pe_op op_add_str (pe_op op_add_str pe_str (pv 4)) pe_str) (pa_cons (pe_op op_add_str (pe_op op_add_str pe_str (pv 4)) pe_str) (pa_cons (pe_op op_add_str (pe_op op_add_str pe_str (pv 4)) pe_str) (pa_cons (pe_op op_add_str (pe_op op_add_str pe_str (pv 4)) pe_str) (pa_cons pe_str (pa_cons (pv 4) (pa_cons pe_str (pa_cons pe_str (pa_cons pe_str (pa_cons pe_str pa_nil))))))))))))) (pv 5) (fun _ _ => rfl))))))))
      (pss_one (ps_ret (pe_slice sl_str (pv 2) po_none (po_some pe_int)))))), ?_⟩
    -- so many parts
    refine ⟨.ref b, rfl, _, rfl, _, _, rfl, rfl, b, _, rfl, (by show (0 : Int) < most + 1; omega), hb, fun n H1 n0 n1 d1 => ?_⟩
    have n1' : n < most + 1 := n1
    refine ⟨n, rfl, by omega, by omega, ?_⟩
    refine for_range (lo := 0) (n := n.toNat) (fun i σ H3 => ∃ (y3 y4 y5 : Option V) (t : Str), σ = [some (.ref b), some (.int (most : Nat)), some (.str t), y3, y4, y5] ∧ Drew b H H3 ∧ t.length ≤ 5 * i ∧ Safe t)
      ⟨_, _, _, _, rfl, d1, by decide, by intro c hc; cases hc⟩ ?_ ?_
    · rintro i σ H3 hi ⟨y3, y4, y5, t, rfl, d3, few, safe⟩
      -- a name, a kind
      refine ⟨.ref b, rfl, b, rfl, d3.box, fun nm H4 hn d4 => ?_⟩
      refine ⟨.ref b, rfl, b, _, rfl, by decide, d4.box, fun kd H5 k0 k1 d5 => ?_⟩
      obtain ⟨nl, nsafe⟩ := names8_ok nm hn
      have a1 : ("<" : Str).length ≤ 2 := by decide
      have a2 : ("<@" : Str).length ≤ 2 := by decide
      have a3 : ("[" : Str).length ≤ 2 := by decide
      have b1 : (">" : Str).length ≤ 1 := by decide
      have b2 : ("]" : Str).length ≤ 1 := by decide
      -- text + [..][kind]
      refine ⟨_, rfl, _, rfl, _, _, rfl, rfl, sum1 a1 nl, _, _, rfl, rfl, sum2 a1 nl b1, _, rfl, _, _, rfl, rfl, sum1 a1 nl, _, _, rfl, rfl, sum2 a1 nl b1,
        _, rfl, _, _, rfl, rfl, sum1 a2 nl, _, _, rfl, rfl, sum2 a2 nl b1, _, rfl, _, _, rfl, rfl, sum1 a2 nl, _, _, rfl, rfl, sum2 a2 nl b1,
        _, rfl, _, _, rfl, rfl, sum1 a3 nl, _, _, rfl, rfl, sum2 a3 nl b2, _, rfl, _, _, rfl, rfl, sum1 a3 nl, _, _, rfl, rfl, sum2 a3 nl b2, _, rfl, ?_⟩
      refine ⟨by show 12 ≤ sizeLine; decide, fun p np => ?_⟩
      obtain ⟨v, hv, at_v⟩ := at_in (xs := (parts nm).map V.str) k0 k1
      obtain ⟨it, hit, rfl⟩ := List.mem_map.mp hv
      obtain ⟨il, isafe⟩ := parts_ok nm hn it hit
      have few' : t.length ≤ 500 := by omega
      refine ⟨_, rfl, p, _, _, _, rfl, rfl, .inl (.inl upd_same), at_v, _, _, rfl, rfl, sizeLine_big (by omega), ?_⟩
      exact ⟨_, _, _, t ++ it, rfl, ((d3.trans d4).trans d5).same (same_new np), by rw [len_app]; omega, safe.app (safe_of isafe)⟩
    · rintro σ H3 ⟨y3, y4, y5, t, rfl, d3, few, safe⟩
      have k60 : t.length ≤ 1000 := by omega
      refine ⟨_, rfl, _, rfl, _, rfl, sizeLine_big (by omega), ?_⟩
      have cc := cut_to t 60
      refine q _ H3 ?_ ?_ d3
      · rw [len_codes]
        have h := List.length_take_le 60 t.cps.toList
        rw [← cc] at h
        exact h
      · intro c hc
        have hc' : c ∈ (cutS t none (some ((60 : Nat) : Int))).cps.toList := hc
        rw [cc] at hc'
        exact safe c (List.mem_of_mem_take hc')
theorem ok_law_is_name (F : Fun K "_law_is_name" "_law_is_name" s_law_is_name f fd) (z : Z mg) : FnOk P w K mg base CX0 1 f fd ["text"] spIsName := by
  refine F.ok sc_law_is_name (fun vs H Q E h => ?_) (fun cdv A outer s H vs Q E hr h => ?_)
  · obtain ⟨z, rfl, _⟩ := h
    rfl
  · obtain ⟨t, rfl, few, q⟩ := h
    refine ⟨_, (pss_cons (ps_for PassesOwn.never rfl (pi_str (pv 0)) (pg_name (i := 1) sc_law_is_name.nd rfl (Or.inl rfl))
        (pss_one (ps_if (pt_cmpR op_notIn_sign (pv 1) pe_str (by rfl))
          (pss_one (ps_ret pe_bl))
          pss_nil)))
      (pss_one (ps_ret (pe_chain op_le op_le pe_int (pe_callB call_len_str (by rfl) z.len PySem.boot_len (pa_cons (pv 0) pa_nil)) pe_int)))), ?_⟩
    refine ⟨_, rfl, t, rfl, ?_⟩
    refine for_str (fun i σ H3 => ∃ y1 : Option V, σ = [some (.str t), y1] ∧ H3 = H ∧ ∀ c ∈ t.cps.toList.take i, 97 ≤ c ∧ c ≤ 122) ⟨none, rfl, rfl, by intro c hc; simp at hc⟩ ?_ ?_
    · rintro i c σ H3 hc ⟨y1, rfl, rfl, all⟩
      have mem : c ∈ t.cps.toList := List.mem_of_getElem? hc
      refine ⟨_, rfl, c, _, rfl, rfl, _, rfl, ite2 (fun e => ?_) (fun e => ?_)⟩
      · have no : ¬ (97 ≤ c ∧ c ≤ 122) := fun h => by
          have h' : c ∈ alphabet.cps.toList := (alphabet_has c).mpr h
          have e' : (!decide (c ∈ alphabet.cps.toList)) = true := e
          rw [decide_eq_true h'] at e'
          cases e'
        have : nameB t = false := by
          unfold nameB
          rw [Bool.and_eq_false_iff]
          left
          rw [List.all_eq_false]
          exact ⟨c, mem, by simpa using no⟩
        rw [this] at q
        exact q
      · have yes : 97 ≤ c ∧ c ≤ 122 := (alphabet_has c).mp (by
          have e' : ¬ (!decide (c ∈ alphabet.cps.toList)) = true := e
          simpa using e')
        refine ⟨_, rfl, rfl, fun d hd => ?_⟩
        rw [List.take_add_one, hc] at hd
        rcases List.mem_append.mp hd with h | h
        · exact all d h
        · simp at h
          rw [h]
          exact yes
    · rintro σ H3 ⟨y1, rfl, rfl, all⟩
      have full : t.cps.toList.take t.length = t.cps.toList := List.take_of_length_le (by rw [len_codes]; exact Nat.le_refl _)
      rw [full] at all
      have a1 : t.cps.toList.all (fun c => decide (97 ≤ c ∧ c ≤ 122)) = true := List.all_eq_true.mpr fun c hc => decide_eq_true (all c hc)
      have nb : nameB t = decide (1 ≤ t.length ∧ t.length ≤ 6) := by
        unfold nameB
        rw [a1, Bool.true_and]
      rw [nb] at q
      refine ⟨_, rfl, _, rfl, sizeLine_big (by omega), _, _, rfl, rfl, _, rfl, ite2 (fun e => ?_) (fun e => ?_)⟩
      · have e1 := of_decide_eq_true e
        refine ⟨_, _, rfl, rfl, ?_⟩
        have : decide ((t.length : Int) ≤ 6) = decide (1 ≤ t.length ∧ t.length ≤ 6) := by
          by_cases h : t.length ≤ 6
          · rw [decide_eq_true (by omega), decide_eq_true ⟨by omega, h⟩]
          · rw [decide_eq_false (by omega), decide_eq_false (fun z => h z.2)]
        rw [← this] at q
        exact q
      · have : decide (1 ≤ t.length ∧ t.length ≤ 6) = false := decide_eq_false fun z => e (decide_eq_true (by omega))
        rw [this] at q
        exact q
end
end K02

namespace K02
open PySem PySem.Spec PyProof.Rows L2 Pg
/-- one sign ahead of another -/
theorem sign_lt (a b : Nat) : decide ([a] < [b]) = decide (a < b) := by
  rw [StrLaws.lt_cons_cons, StrLaws.lt_nil_nil]
  simp
def spIsNameP : Sp := fun vs H Q _ => ∃ z : Str, vs = [.str z] ∧ z.length ≤ 1000 ∧ ∀ H', Same H H' → Q (.bl (nameB z)) H'
def afterB (x y : Str) : Bool := decide (y.cps.toList < x.cps.toList)
def spAfter : Sp := fun vs H Q _ => ∃ x y : Str, vs = [.str x, .str y] ∧ Q (.bl (afterB x y)) H
section
variable {P : Program} {w : World} {K : PySem.W.Frag} {mg : Str → Option Value} {base : Heap} {f : Addr} {fd : FuncData}
theorem ok_is_name (F : Fun K "is_name" "is_name" s_is_name f fd) (z : Z mg) : FnOk P w K mg base CX0 1 f fd ["text"] spIsNameP := by
  refine F.ok sc_is_name (fun vs H Q E h => ?_) (fun cdv A outer s H vs Q E hr h => ?_)
  · obtain ⟨z, rfl, _⟩ := h
    rfl
  · obtain ⟨t, rfl, few, q⟩ := h
    refine ⟨_, (pss_one (ps_ret (pe_and (pe_chain op_le op_le pe_int (pe_callB call_len_str (by rfl) z.len PySem.boot_len (pa_cons (pv 0) pa_nil)) (pe_cI (by rfl) z.c_NAME_MOST)) (pe_one (pe_callB (cr_all rfl) (by rfl) z.all (by decide +kernel) (pa_cons (pe_lc (own := [("sign", 1)]) (g := (gName 1)) (tt := tYes) rfl sc_is_name.nd (pi_str (pv 0)) (blkOk_by (own := [("sign", 1)]) (N := ["text", "sign"]) (sc := defScope s_is_name) (by decide +kernel)) (fun _ _ _ _ _ => pg_name (i := 1) sc_is_name.nd rfl (Or.inl rfl)) (fun _ _ _ _ _ => pts_nil) (fun _ _ _ _ _ => (pe_chain op_le_str op_le_str pe_str (pv 1) pe_str))) pa_nil)))))), ?_⟩
    have no : ¬ (1 ≤ t.length ∧ t.length ≤ 6) → nameB t = false := fun h => by
      unfold nameB
      rw [decide_eq_false h, Bool.and_false]
    refine ⟨_, rfl, _, rfl, sizeLine_big (by omega), _, _, rfl, rfl, _, rfl, ite2 (fun e => ?_) (fun e => ?_)⟩
    · have e1 := of_decide_eq_true e
      refine ⟨_, _, rfl, rfl, _, rfl, ite2 (fun e => ?_) (fun e => ?_)⟩
      · have e2 := of_decide_eq_true e
        -- all([..])
        refine ⟨_, rfl, t, rfl, fun D nD => ?_⟩
        refine lc_str (fun i H3 => H3 = upd H D (.lst ((t.cps.toList.take i).map fun c => V.bl (decide (97 ≤ c ∧ c ≤ 122))))) rfl ?_ ?_
        · rintro i c H3 hc rfl
          refine ⟨rfl, yes ?_⟩
          refine iteT ?_
          have step : ∀ b : Bool, b = decide (97 ≤ c ∧ c ≤ 122) → upd (upd H D (.lst ((t.cps.toList.take i).map fun c => V.bl (decide (97 ≤ c ∧ c ≤ 122))))) D (.lst (((t.cps.toList.take i).map fun c => V.bl (decide (97 ≤ c ∧ c ≤ 122))) ++ [V.bl b])) =
              upd H D (.lst ((t.cps.toList.take (i + 1)).map fun c => V.bl (decide (97 ≤ c ∧ c ≤ 122)))) := by
            rintro b rfl
            rw [upd_upd, List.take_add_one, hc, List.map_append]
            rfl
          have small : ((t.cps.toList.take i).map fun c => V.bl (decide (97 ≤ c ∧ c ≤ 122))).length < sizeLine := by
            rw [List.length_map, List.length_take, ← len_codes]
            exact small5 (by omega)
          refine ⟨_, rfl, _, _, rfl, rfl, _, rfl, ite2 (fun e => ?_) (fun e => ?_)⟩
          · have e1 : (!decide ([c] < [97])) = true := e
            rw [sign_lt] at e1
            refine ⟨_, _, rfl, rfl, _, upd_same, small, step _ ?_⟩
            show (!decide ([122] < [c])) = _
            rw [sign_lt]
            have c1 : 97 ≤ c := by simpa using e1
            by_cases h : c ≤ 122
            · simp [c1, h]
            · have h2 : 122 < c := by omega
              simp [h, h2]
          · have e1 : ¬ (!decide ([c] < [97])) = true := e
            rw [sign_lt] at e1
            refine ⟨_, upd_same, small, step _ ?_⟩
            have c1 : c < 97 := by simpa using e1
            exact (decide_eq_false (fun z => absurd z.1 (by omega))).symm
        · rintro H3 rfl
          have full : t.cps.toList.take t.length = t.cps.toList := List.take_of_length_le (by rw [len_codes]; exact Nat.le_refl _)
          rw [full]
          refine ⟨D, t.cps.toList.map fun c => decide (97 ≤ c ∧ c ≤ 122), rfl, .inl (.inl (by rw [upd_same, List.map_map]; rfl)), ?_⟩
          have := q _ (same_new (o := .lst (t.cps.toList.map fun c => V.bl (decide (97 ≤ c ∧ c ≤ 122)))) nD)
          have eq : (t.cps.toList.map fun c => decide (97 ≤ c ∧ c ≤ 122)).all id = nameB t := by
            unfold nameB
            rw [decide_eq_true (p := 1 ≤ t.length ∧ t.length ≤ 6) ⟨by omega, by omega⟩, Bool.and_true, List.all_map]
            rfl
          rw [eq]
          exact this
      · have e2 : ¬ t.length ≤ 6 := fun h => e (decide_eq_true (by omega))
        have := q H (Same.refl H)
        rw [no (fun h => e2 h.2)] at this
        exact this
    · have e1 : ¬ 1 ≤ t.length := fun h => e (decide_eq_true (by omega))
      have := q H (Same.refl H)
      rw [no (fun h => e1 h.1)] at this
      exact ⟨_, rfl, iteF this⟩
theorem ok_is_after (F : Fun K "is_after" "is_after" s_is_after f fd) (z : Z mg) : FnOk P w K mg base CX0 1 f fd ["one", "other"] spAfter := by
  refine F.ok sc_is_after (fun vs H Q E h => ?_) (fun cdv A outer s H vs Q E hr h => ?_)
  · obtain ⟨x, y, rfl, _⟩ := h
    rfl
  · obtain ⟨x, y, rfl, q⟩ := h
    refine ⟨_, (pss_one (ps_ret (pe_cmpR op_gt_str (pv 0) (pv 1) (nomark _)))), ?_⟩
    exact ⟨_, rfl, _, rfl, _, _, rfl, rfl, q⟩
end
end K02

namespace K02
open PySem PySem.Spec PyProof.Rows L2 Pg
/-! ### segments on the heap -/
def TupS (H : Hp) (p : Addr) (s : Seg) : Prop := H p = some (.tup [.str s.1, .str s.2])
def SegsAt (H : Hp) (p : Addr) (l : List Seg) : Prop := ∃ ts : List Addr, H p = some (.lst (ts.map V.ref)) ∧ Paired (TupS H) ts l
theorem SegsAt.same {H H' : Hp} {p : Addr} {l : List Seg} (x : SegsAt H p l) (s : Same H H') : SegsAt H' p l := by
  obtain ⟨ts, e, r⟩ := x
  exact ⟨ts, s _ _ e, Paired.mapP r fun t g h => s _ _ h⟩
theorem tups_upd {H : Hp} {p : Addr} {xs : List V} {o : HO} {ts : List Addr} {l : List Seg} (e : H p = some (.lst xs)) (r : Paired (TupS H) ts l) : Paired (TupS (upd H p o)) ts l :=
  Paired.mapP r fun t g h => by
    show upd H p o t = _
    rw [upd_ne (ne_of h e (by intro z; cases z))]
    exact h
theorem paired_app {α β : Type} {F : α → β → Prop} : ∀ {a : List α} {b : List β} {c : List α} {d : List β}, Paired F a b → Paired F c d → Paired F (a ++ c) (b ++ d)
  | _, _, _, _, .nil, s => s
  | _, _, _, _, .cons r t, s => .cons r (paired_app t s)
theorem paired_len {α β : Type} {F : α → β → Prop} : ∀ {a : List α} {b : List β}, Paired F a b → a.length = b.length
  | _, _, .nil => rfl
  | _, _, .cons _ t => congrArg (· + 1) (paired_len t)
theorem paired_at {α β : Type} {F : α → β → Prop} : ∀ {a : List α} {b : List β} {i : Nat} {y : β}, Paired F a b → b[i]? = some y → ∃ x, a[i]? = some x ∧ F x y
  | _, _, _, _, .nil, h => by simp at h
  | _, _, 0, y, .cons r t, h => by
    obtain rfl := Option.some.inj h
    exact ⟨_, rfl, r⟩
  | _, _, i + 1, y, .cons r t, h => by
    obtain ⟨x, e, f⟩ := paired_at (i := i) t (by simpa using h)
    exact ⟨x, by simpa using e, f⟩
/-- a new segment behind -/
theorem SegsAt.push {H : Hp} {p q : Addr} {l : List Seg} {s : Seg} {ts : List Addr} (e : H p = some (.lst (ts.map V.ref))) (r : Paired (TupS H) ts l) (h : TupS H q s) :
    SegsAt (upd H p (.lst (ts.map V.ref ++ [.ref q]))) p (l ++ [s]) :=
  ⟨ts ++ [q], by rw [upd_same, List.map_append]; rfl, tups_upd e (paired_app r (.cons h .nil))⟩
def spPlain : Sp := fun vs H Q _ => ∃ z : Str, vs = [.str z] ∧ ∀ (H' : Hp) (p : Addr), Same H H' → H p = none → SegsAt H' p (Pg.plain z) → Q (.ref p) H'
def spTextOf (K : PySem.W.Frag) : Sp := fun vs H Q _ => ∃ (p : Addr) (s : Seg), vs = [.ref p] ∧ SqT K H p [.str s.1, .str s.2] ∧ (s.1 = "text" ∨ s.1 ∈ kinds) ∧ s.2.length ≤ 1000 ∧ Q (.str (textOf s)) H
def aft (nm : Str) : Str → Bool := fun z => afterB z nm
def spSegAt : Sp := fun vs H Q _ => ∃ (nm t : Str) (i : Nat), vs = [.str nm, .str t, .int (i : Nat)] ∧ i < t.length ∧ t.length ≤ 1000 ∧
  ∀ H', Same H H' → (brk nameB (aft nm) t i = none → Q .non H') ∧ ∀ k z e, brk nameB (aft nm) t i = some (k, z, e) → ∀ p, H p = none → H' p = some (.tup [.str k, .str z]) → Q (.ref p) H'
def spSplit : Sp := fun vs H Q _ => ∃ nm t : Str, vs = [.str nm, .str t] ∧ t.length ≤ 1000 ∧ ∀ (H' : Hp) (p : Addr), Same H H' → H p = none → SegsAt H' p (segs nameB (aft nm) t 0 0) → Q (.ref p) H'
def spJoin : Sp := fun vs H Q _ => ∃ (p : Addr) (l : List Seg), vs = [.ref p] ∧ SegsAt H p l ∧ l.length ≤ 3000 ∧ (∀ s ∈ l, (s.1 = "text" ∨ s.1 ∈ kinds) ∧ s.2.length ≤ 1000) ∧ ∀ H', Same H H' → Q (.str (glue (l.map textOf))) H'
/-- a written tuple of the module -/
def TupK (K : PySem.W.Frag) (p : Addr) (xs : List V) : Prop := ∃ (o : Obj) (its : Array Value) (n : Nat), K.lookup p = some o ∧ o.cls = .type "tuple" ∧ o.data = .seq its n ∧ its.size ≤ sizeLine ∧ Vals xs its.toList
/-- the table of the signs -/
structure Signs (w : World) (K : PySem.W.Frag) (mg : Str → Option Value) (sg : Addr) : Prop where
  glob : mg "_SIGNS" = some (.ref sg)
  low : (sg == sysModules) = false
  ex : ∃ (es : Array DictEntry) (n : Nat) (p0 p1 p2 : Addr), K.lookup sg = some ⟨.type "dict", none, .dict es n, #[]⟩ ∧ PySem.W.KeysLit w.params es.toList ∧
    Entries es [(.str "include", .ref p0), (.str "indirect", .ref p1), (.str "link", .ref p2)] ∧ TupK K p0 [.str "<", .str ">"] ∧ TupK K p1 [.str "<@", .str ">"] ∧ TupK K p2 [.str "[", .str "]"] ∧
    PySem.W.nsIn K sg "include" = some (some (.ref p0)) ∧ PySem.W.nsIn K sg "indirect" = some (some (.ref p1)) ∧ PySem.W.nsIn K sg "link" = some (some (.ref p2))
theorem name_no64 : ∀ z, nameB z = true → 64 ∉ cd z := by
  intro z h m
  have a := (Bool.and_eq_true_iff.mp h).1
  have := of_decide_eq_true (List.all_eq_true.mp a 64 m)
  omega
section
variable {P : Program} {w : World} {K : PySem.W.Frag} {mg : Str → Option Value} {base : Heap} {f sg : Addr} {fd : FuncData}
theorem ok_plain (F : Fun K "_plain" "_plain" s_plain f fd) (z : Z mg) : FnOk P w K mg base CX0 1 f fd ["characters"] spPlain := by
  refine F.ok sc_plain (fun vs H Q E h => ?_) (fun cdv A outer s H vs Q E hr h => ?_)
  · obtain ⟨z, rfl, _⟩ := h
    rfl
  · obtain ⟨t, rfl, q⟩ := h
    refine ⟨_, (pss_cons (ps_if (pt_cmpR op_eq (pv 0) pe_str (nomark _))
        (pss_one (ps_ret (pe_lst pa_nil)))
        pss_nil)
      (pss_one (ps_ret (pe_lst (pa_cons (pe_tup (pa_cons pe_str (pa_cons (pv 0) pa_nil))) pa_nil))))), ?_⟩
    refine ⟨_, rfl, rfl, _, rfl, ite2 (fun e => ?_) (fun e => ?_)⟩
    · have e1 : t = ⟨#[]⟩ := by rw [← s0]; exact V.str.inj (of_decide_eq_true e)
      refine ⟨Nat.zero_le _, fun p np => q _ p (same_new np) np ⟨[], upd_same, ?_⟩⟩
      unfold Pg.plain
      rw [if_pos e1]
      exact .nil
    · have e1 : ¬ t = ⟨#[]⟩ := fun h => e (decide_eq_true (by rw [h, s0]))
      refine ⟨_, rfl, (by show 2 ≤ sizeLine; decide), fun u nu => ⟨(by show 1 ≤ sizeLine; decide), fun p np => ?_⟩⟩
      have ne : u ≠ p := ne_of_none upd_same np
      have np0 : H p = none := by
        rw [upd_ne ne.symm] at np
        exact np
      refine q _ p ((same_new nu).trans (same_new np)) np0 ⟨[u], upd_same, ?_⟩
      unfold Pg.plain
      rw [if_neg e1]
      refine .cons ?_ .nil
      show upd _ p _ u = _
      rw [upd_ne ne, upd_same]
theorem ok_text_of (F : Fun K "_text_of" "_text_of" s_text_of f fd) (z : Z mg) (gs : Signs w K mg sg) : FnOk P w K mg base CX0 1 f fd ["segment"] (spTextOf K) := by
  refine F.ok sc_text_of (fun vs H Q E h => ?_) (fun cdv A outer s H vs Q E hr h => ?_)
  · obtain ⟨p, s, rfl, _⟩ := h
    rfl
  · obtain ⟨p, ⟨k, x⟩, rfl, hT, hk, few, q⟩ := h
    refine ⟨_, (pss_cons (ps_asg (pv 0) (pg_tup rfl (pgs_cons (pg_name (i := 1) sc_text_of.nd rfl (Or.inl rfl)) (pgs_cons (pg_name (i := 2) sc_text_of.nd rfl (Or.inl rfl)) pgs_nil))))
      (pss_cons (ps_if (pt_cmpR op_eq (pv 1) pe_str (nomark _))
        (pss_one (ps_ret (pv 2)))
        pss_nil)
      (pss_cons (ps_asg (pe_ix ix_kdict (pe_glob (v := V.ref sg) (by rfl) gs.glob rfl) (pv 1) (fun _ _ => rfl)) (pg_tup rfl (pgs_cons (pg_name (i := 3) sc_text_of.nd rfl (Or.inl rfl)) (pgs_cons (pg_name (i := 4) sc_text_of.nd rfl (Or.inl rfl)) pgs_nil))))
      (pss_one (ps_ret (pe_op op_add_str (pe_op op_add_str (pv 3) (pv 2)) (pv 4))))))), ?_⟩
    obtain ⟨es, n, p0, p1, p2, at_d, lit, en, T0, T1, T2, n0, n1, n2⟩ := gs.ex
    -- kind, characters = segment
    refine ⟨_, rfl, p, _, rfl, hT, rfl, _, _, rfl, _, _, rfl, rfl, ?_⟩
    refine ⟨_, rfl, rfl, _, rfl, ite2 (fun e => ?_) (fun e => ?_)⟩
    · have e1 : k = "text" := V.str.inj (of_decide_eq_true e)
      refine ⟨_, rfl, ?_⟩
      unfold textOf at q
      rw [if_pos e1] at q
      exact q
    · have e1 : ¬ k = "text" := fun h => e (decide_eq_true (by rw [h]))
      have hk' : k ∈ kinds := hk.resolve_left e1
      have few' : x.length ≤ 1000 := few
      have sz : ∀ a b : Str, a.length ≤ 2 → b.length ≤ 1 → a.length + x.length ≤ sizeLine ∧ (a ++ x).length + b.length ≤ sizeLine := fun a b ha hb => by
        rw [len_app]
        exact ⟨sizeLine_big (by omega), sizeLine_big (by omega)⟩
      have fin : ∀ (pp : Addr) (a b : Str), PySem.W.nsIn K sg k = some (some (.ref pp)) → TupK K pp [.str a, .str b] → a.length ≤ 2 → b.length ≤ 1 → textOf (k, x) = a ++ x ++ b → True := fun _ _ _ _ _ _ _ _ => trivial
      have cases3 : ∃ (pp : Addr) (a b : Str), PySem.W.nsIn K sg k = some (some (.ref pp)) ∧ TupK K pp [.str a, .str b] ∧ a.length ≤ 2 ∧ b.length ≤ 1 ∧ textOf (k, x) = a ++ x ++ b := by
        have hk2 : k = "include" ∨ k = "indirect" ∨ k = "link" := by
          rcases List.mem_cons.mp hk' with h | h
          · exact Or.inl h
          · rcases List.mem_cons.mp h with h | h
            · exact Or.inr (Or.inl h)
            · exact Or.inr (Or.inr (List.mem_singleton.mp h))
        rcases hk2 with rfl | rfl | rfl
        · exact ⟨p0, _, _, n0, T0, by decide, by decide, text_inc x⟩
        · exact ⟨p1, _, _, n1, T1, by decide, by decide, text_ind x⟩
        · exact ⟨p2, _, _, n2, T2, by decide, by decide, text_link x⟩
      obtain ⟨pp, a, b, nn, TT, la, lb, tx⟩ := cases3
      obtain ⟨z1, z2⟩ := sz a b la lb
      refine ⟨_, rfl, sg, k, .ref pp, rfl, rfl, ⟨es, n, _, at_d, lit, nn, rfl⟩, pp, _, rfl, .inr TT, rfl, _, _, rfl, _, _, rfl, rfl, ?_⟩
      refine ⟨_, rfl, _, rfl, _, _, rfl, rfl, z1, _, rfl, _, _, rfl, rfl, z2, ?_⟩
      rw [← tx]
      exact q
end
end K02

namespace K02
open PySem PySem.Spec PyProof.Rows L2 Pg
def sgn : List (Str × Str × Nat) := [("include", "<", 62), ("indirect", "<@", 62), ("link", "[", 93)]
theorem brk_first {N A : Str → Bool} {t : Str} {i j : Nat} {g : Str × Str × Nat} {r : Str × Str × Nat} (hN : ∀ z, N z = true → 64 ∉ cd z) (hg : sgn[j]? = some g)
    (no : ∀ j' g', j' < j → sgn[j']? = some g' → tryK N A t i g'.1 g'.2.1 g'.2.2 = none) (h : tryK N A t i g.1 g.2.1 g.2.2 = some r) : brk N A t i = some r := by
  rw [brk_try hN]
  match j, hg with
  | 0, hg =>
    obtain rfl := Option.some.inj hg
    rw [h]
    rfl
  | 1, hg =>
    obtain rfl := Option.some.inj hg
    rw [no 0 _ (by omega) rfl, h]
    rfl
  | 2, hg =>
    obtain rfl := Option.some.inj hg
    rw [no 0 _ (by omega) rfl, no 1 _ (by omega) rfl, h]
    rfl
  | j + 3, hg => cases hg
theorem brk_never {N A : Str → Bool} {t : Str} {i : Nat} (hN : ∀ z, N z = true → 64 ∉ cd z) (no : ∀ j' g', j' < 3 → sgn[j']? = some g' → tryK N A t i g'.1 g'.2.1 g'.2.2 = none) : brk N A t i = none := by
  rw [brk_try hN, no 0 _ (by omega) rfl, no 1 _ (by omega) rfl, no 2 _ (by omega) rfl]
  rfl
section
variable {P : Program} {w : World} {K : PySem.W.Frag} {mg : Str → Option Value} {base : Heap} {f sg : Addr} {fd : FuncData}
theorem ok_segment_at (F : Fun K "_segment_at" "_segment_at" s_segment_at f fd) (z : Z mg) (gs : Signs w K mg sg) (cis_name : Cal P w K mg base "is_name" 1 ["text"] spIsNameP)
    (cis_after : Cal P w K mg base "is_after" 1 ["one", "other"] spAfter) : FnOk P w K mg base CX0 2 f fd ["name", "text", "at"] spSegAt := by
  refine F.ok sc_segment_at (fun vs H Q E h => ?_) (fun cdv A outer s H vs Q E hr h => ?_)
  · obtain ⟨nm, t, i, rfl, _⟩ := h
    rfl
  · obtain ⟨nm, t, i, rfl, lt, few, q⟩ := h
    refine ⟨_, (pss_cons (ps_for PassesOwn.never rfl (pi_itemsW (pe_glob (v := V.ref sg) (by rfl) gs.glob rfl)) (pg_tup rfl (pgs_cons (pg_name (i := 3) sc_segment_at.nd rfl (Or.inl rfl)) (pgs_cons (pg_tup rfl (pgs_cons (pg_name (i := 4) sc_segment_at.nd rfl (Or.inl rfl)) (pgs_cons (pg_name (i := 5) sc_segment_at.nd rfl (Or.inl rfl)) pgs_nil))) pgs_nil)))
        (pss_cons (ps_set (i := 6) sc_segment_at.nd rfl (Or.inl rfl) (pe_op op_add (pv 2) (pe_callB call_len_str (by rfl) z.len PySem.boot_len (pa_cons (pv 4) pa_nil))))
        (pss_cons (ps_set (i := 7) sc_segment_at.nd rfl (Or.inl rfl) (pe_bm PySem.F.plainAttrs_str PySem.F.slot_str_find PySem.F.type_str_find mt_find3 (pv 1) (pa_cons (pv 5) (pa_cons (pv 6) pa_nil))))
        (pss_one (ps_if (PW.pt (pw_and (pt_cmpR op_eq (pe_slice sl_str (pv 1) (po_some (pv 2)) (po_some (pv 6))) (pv 4) (nomark _)) (pw_and1 (pt_cmpR op_ge (pv 7) pe_int (nomark _)))))
          (pss_cons (ps_set (i := 8) sc_segment_at.nd rfl (Or.inl rfl) (pe_slice sl_str (pv 1) (po_some (pv 6)) (po_some (pv 7))))
          (pss_one (ps_if (PW.pt (pw_and (pt_val (pe_cal cis_name (hr.mono (by decide)) (by rfl) (pa_cons (pv 8) pa_nil))) (pw_and1 (PW.pt (pw_or (pt_cmpR op_eq (pv 3) pe_str (nomark _)) (pw_or1 (pt_val (pe_cal cis_after (hr.mono (by decide)) (by rfl) (pa_cons (pv 8) (pa_cons (pv 0) pa_nil))))))))))
            (pss_one (ps_ret (pe_tup (pa_cons (pv 3) (pa_cons (pv 8) pa_nil)))))
            pss_nil)))
          pss_nil)))))
      (pss_one (ps_ret pe_non))), ?_⟩
    obtain ⟨es, n, p0, p1, p2, at_d, lit, en, T0, T1, T2, n0, n1, n2⟩ := gs.ex
    refine ⟨sg, es, n, _, rfl, at_d, en, gs.low, ?_⟩
    refine for_itemsW (fun j σ H3 => (∃ y3 y4 y5 y6 y7 y8 : Option V, σ = [some (.str nm), some (.str t), some (.int (i : Nat)), y3, y4, y5, y6, y7, y8]) ∧ Same H H3 ∧
      ∀ j' g', j' < j → sgn[j']? = some g' → tryK nameB (aft nm) t i g'.1 g'.2.1 g'.2.2 = none) ⟨⟨_, _, _, _, _, _, rfl⟩, Same.refl H, fun j' g' h => by omega⟩ ?_ ?_
    · rintro j kv vv σ H3 T hkv ⟨⟨y3, y4, y5, y6, y7, y8, rfl⟩, sm, no⟩ nT
      obtain ⟨k, b, c, pp, rfl, rfl, TT, lb, hg⟩ : ∃ (k b : Str) (c : Nat) (pp : Addr), kv = .str k ∧ vv = .ref pp ∧ TupK K pp [.str b, .str ⟨#[c]⟩] ∧ b.length ≤ 2 ∧ sgn[j]? = some (k, b, c) := by
        match j, hkv with
        | 0, hkv =>
          cases Option.some.inj hkv
          exact ⟨_, "<", 62, p0, rfl, rfl, by rw [← s62]; exact T0, by decide, rfl⟩
        | 1, hkv =>
          cases Option.some.inj hkv
          exact ⟨_, "<@", 62, p1, rfl, rfl, by rw [← s62]; exact T1, by decide, rfl⟩
        | 2, hkv =>
          cases Option.some.inj hkv
          exact ⟨_, "[", 93, p2, rfl, rfl, by rw [← s93]; exact T2, by decide, rfl⟩
        | j + 3, hkv => cases hkv
      have smT : Same H (upd H3 T (.tup [.str k, .ref pp])) := sm.trans (same_new nT)
      -- kind, (before, behind)
      refine ⟨T, _, rfl, .inl (.inl upd_same), rfl, _, _, rfl, _, _, rfl, pp, _, rfl, .inr TT, rfl, _, _, rfl, _, _, rfl, rfl, rfl, ?_⟩
      -- start, end
      refine ⟨_, rfl, _, rfl, b, rfl, sizeLine_big (by omega), _, _, rfl, rfl, ?_⟩
      refine ⟨_, rfl, rfl, _, rfl, _, rfl, t, ⟨#[c]⟩, _, rfl, rfl, ?_⟩
      have cast : ((i : Nat) : Int) + ((b.length : Nat) : Int) = ((i + b.length : Nat) : Int) := by omega
      have fc : Txt.find3 t ⟨#[c]⟩ (((i : Nat) : Int) + ((b.length : Nat) : Int)) = match closeAt t c (i + b.length) with | some k => (k : Int) | none => -1 := by
        rw [cast]
        exact find_close t c (i + b.length)
      have cs : cutS t (some ((i : Nat) : Int)) (some (((i : Nat) : Int) + ((b.length : Nat) : Int))) = sub t i (i + b.length) := by
        rw [cast]
        exact cut_sub t i (i + b.length)
      have next : tryK nameB (aft nm) t i k b c = none → ∀ j' g', j' < j + 1 → sgn[j']? = some g' → tryK nameB (aft nm) t i g'.1 g'.2.1 g'.2.2 = none := by
        intro h j' g' hj hg'
        by_cases e : j' = j
        · subst e
          rw [hg] at hg'
          cases hg'
          exact h
        · exact no j' g' (by omega) hg'
      -- the signs ahead and behind
      refine ⟨_, rfl, _, rfl, _, rfl, _, rfl, _, rfl, t, rfl, sizeLine_big (by omega), _, rfl, rfl, _, rfl, ite2 (fun e => ?_) (fun e => ?_)⟩
      · have e1 : sub t i (i + b.length) = b := by
          rw [← cs]
          exact V.str.inj (of_decide_eq_true e)
        refine ⟨_, rfl, _, _, rfl, rfl, _, rfl, ite2 (fun e => ?_) (fun e => ?_)⟩
        · have e2 : (0 : Int) ≤ Txt.find3 t ⟨#[c]⟩ (((i : Nat) : Int) + ((b.length : Nat) : Int)) := of_decide_eq_true e
          rw [fc] at e2
          cases hc : closeAt t c (i + b.length) with
          | none =>
            rw [hc] at e2
            exact absurd e2 (by decide)
          | some en =>
            rw [hc] at fc
            have cin : cutS t (some (((i : Nat) : Int) + ((b.length : Nat) : Int))) (some (Txt.find3 t ⟨#[c]⟩ (((i : Nat) : Int) + ((b.length : Nat) : Int)))) = sub t (i + b.length) en := by
              rw [fc, cast]
              exact cut_sub t (i + b.length) en
            obtain ⟨c1, c2, _⟩ := close_is hc
            have tr : tryK nameB (aft nm) t i k b c = if (nameB (sub t (i + b.length) en) && (decide (k = "link") || aft nm (sub t (i + b.length) en))) = true then some (k, sub t (i + b.length) en, en + 1) else none := by
              unfold tryK
              rw [if_pos e1, hc]
            generalize hfd : Txt.find3 t ⟨#[c]⟩ (((i : Nat) : Int) + ((b.length : Nat) : Int)) = fd at *
            -- inner
            refine ⟨_, rfl, _, rfl, _, rfl, _, rfl, fd, rfl, t, rfl, sizeLine_big (by omega), ?_⟩
            have il : (sub t (i + b.length) en).length ≤ 1000 := by rw [sub_len (by omega)]; omega
            have win : (nameB (sub t (i + b.length) en) && (decide (k = "link") || aft nm (sub t (i + b.length) en))) = true → brk nameB (aft nm) t i = some (k, sub t (i + b.length) en, en + 1) := fun h =>
              brk_first name_no64 hg no (tr.trans (if_pos h))
            have lose : ¬ (nameB (sub t (i + b.length) en) && (decide (k = "link") || aft nm (sub t (i + b.length) en))) = true → tryK nameB (aft nm) t i k b c = none := fun h => by rw [tr, if_neg h]
            refine ⟨_, rfl, _, rfl, (by rw [cin]; exact il), fun H5 s5 => ⟨_, rfl, ite2 (fun e => ?_) (fun e => ?_)⟩⟩
            · rw [cin] at e
              have fin : brk nameB (aft nm) t i = some (k, sub t (i + b.length) en, en + 1) → ∀ p, H5 p = none → Q (.ref p) (upd H5 p (.tup [.str k, .str (cutS t (some (((i : Nat) : Int) + ((b.length : Nat) : Int))) (some fd))])) := by
                intro hb p np
                refine (q _ ((smT.trans s5).trans (same_new np))).2 _ _ _ hb p ((smT.trans s5).free np) ?_
                rw [upd_same, cin]
              refine ⟨_, rfl, rfl, _, rfl, ite2 (fun e2 => ?_) (fun e2 => ?_)⟩
              · have kl : k = "link" := V.str.inj (of_decide_eq_true e2)
                refine iteT ?_
                refine ⟨_, rfl, _, rfl, (by show 2 ≤ sizeLine; decide), fun p np => fin (win ?_) p np⟩
                rw [e, decide_eq_true kl]
                rfl
              · have kl : ¬ k = "link" := fun h => e2 (decide_eq_true (by rw [h]))
                refine ⟨_, rfl, _, rfl, _, _, rfl, _, rfl, ite2 (fun e3 => ?_) (fun e3 => ?_)⟩
                · refine ⟨_, rfl, _, rfl, (by show 2 ≤ sizeLine; decide), fun p np => fin (win ?_) p np⟩
                  rw [cin] at e3
                  have e4 : aft nm (sub t (i + b.length) en) = true := e3
                  rw [e, e4, Bool.or_true]
                  rfl
                · refine ⟨⟨_, _, _, _, _, _, rfl⟩, smT.trans s5, next (lose ?_)⟩
                  rw [cin] at e3
                  have e4 : ¬ aft nm (sub t (i + b.length) en) = true := e3
                  intro h
                  rw [decide_eq_false kl, Bool.false_or] at h
                  exact e4 (Bool.and_eq_true_iff.mp h).2
            · rw [cin] at e
              exact ⟨⟨_, _, _, _, _, _, rfl⟩, smT.trans s5, next (lose fun h => e (Bool.and_eq_true_iff.mp h).1)⟩
        · have e2 : ¬ (0 : Int) ≤ Txt.find3 t ⟨#[c]⟩ (((i : Nat) : Int) + ((b.length : Nat) : Int)) := fun h => e (decide_eq_true h)
          rw [fc] at e2
          refine ⟨⟨_, _, _, _, _, _, rfl⟩, smT, next ?_⟩
          unfold tryK
          rw [if_pos e1]
          cases hc : closeAt t c (i + b.length) with
          | none => rfl
          | some en =>
            rw [hc] at e2
            exact absurd (Int.natCast_nonneg en) e2
      · have e1 : ¬ sub t i (i + b.length) = b := fun h => e (decide_eq_true (by rw [cs, h]))
        refine ⟨⟨_, _, _, _, _, _, rfl⟩, smT, next ?_⟩
        unfold tryK
        rw [if_neg e1]
    · rintro σ H3 ⟨⟨y3, y4, y5, y6, y7, y8, rfl⟩, sm, no⟩
      exact (q H3 sm).1 (brk_never name_no64 no)
end
end K02

namespace K02
open PySem PySem.Spec PyProof.Rows L2 Pg
theorem join_glue (ys : List Str) : Txt.join "" ys = glue ys := by
  apply cd_inj
  have h1 : cd (Txt.join "" ys) = TL.joinL (cd "") (ys.map cd) := by
    rw [TL.join_eq]
    exact TL.tl_join "" ys
  have e0 : cd ("" : Str) = [] := by decide +kernel
  rw [h1, e0]
  have h2 : ∀ l : List Str, TL.joinL [] (l.map cd) = cd (glue l) := by
    intro l
    induction l with
    | nil => rfl
    | cons x r ih =>
      cases r with
      | nil =>
        show cd x = cd (x ++ ⟨#[]⟩)
        rw [cd_app]
        simp
      | cons y r =>
        show cd x ++ ([] ++ TL.joinL [] ((y :: r).map cd)) = cd (x ++ glue (y :: r))
        rw [ih, cd_app, List.nil_append]
  exact h2 ys
theorem textOf_len {s : Seg} (h : s.2.length ≤ 1000) : (textOf s).length ≤ 1003 := by
  unfold textOf
  split
  · omega
  · split
    · rw [len_app, len_app]
      have a : ("<" : Str).length = 1 := rfl
      have b : (">" : Str).length = 1 := rfl
      omega
    · split
      · rw [len_app, len_app]
        have a : ("<@" : Str).length = 2 := rfl
        have b : (">" : Str).length = 1 := rfl
        omega
      · rw [len_app, len_app]
        have a : ("[" : Str).length = 1 := rfl
        have b : ("]" : Str).length = 1 := rfl
        omega
theorem sum_le {ys : List Str} {n : Nat} (h : ∀ y ∈ ys, y.length ≤ n) : (ys.map (·.length)).sum ≤ ys.length * n := by
  induction ys with
  | nil => simp
  | cons y r ih =>
    rw [List.map_cons, List.sum_cons, List.length_cons]
    have h1 := h y List.mem_cons_self
    have h2 := ih fun z hz => h z (List.mem_cons_of_mem _ hz)
    have h3 : (r.length + 1) * n = r.length * n + n := by rw [Nat.add_mul, Nat.one_mul]
    omega
section
variable {P : Program} {w : World} {K : PySem.W.Frag} {mg : Str → Option Value} {base : Heap} {f sg : Addr} {fd : FuncData}
theorem ok_join (F : Fun K "join" "join" s_join f fd) (z : Z mg) (ctext_of : Cal P w K mg base "_text_of" 1 ["segment"] (spTextOf K)) : FnOk P w K mg base CX0 2 f fd ["segments"] spJoin := by
  refine F.ok sc_join (fun vs H Q E h => ?_) (fun cdv A outer s H vs Q E hr h => ?_)
  · obtain ⟨p, l, rfl, _⟩ := h
    rfl
  · obtain ⟨p, l, rfl, ⟨ts, hp, pr⟩, few, ok, q⟩ := h
    refine ⟨_, (pss_one (ps_ret (pe_bm PySem.F.plainAttrs_str PySem.F.slot_str_join PySem.F.type_str_join mt_join pe_str (pa_cons (pe_lc (own := [("segment", 1)]) (g := (gName 1)) (tt := tYes) rfl sc_join.nd (pi_list (pv 0)) (blkOk_by (own := [("segment", 1)]) (N := ["segments", "segment"]) (sc := defScope s_join) (by decide +kernel)) (fun _ _ _ _ _ => pg_name (i := 1) sc_join.nd rfl (Or.inl rfl)) (fun _ _ _ _ _ => pts_nil) (fun _ _ _ _ _ => (pe_cal ctext_of (hr.mono (by decide)) (by rfl) (pa_cons (pv 1) pa_nil)))) pa_nil)))), ?_⟩
    have len := paired_len pr
    refine ⟨rfl, _, rfl, p, rfl, ⟨_, .inl (.inl hp)⟩, fun D nD => ?_⟩
    refine lc_list (K := K) (a := p) (xs := ts.map V.ref) (fun i H3 => Same H H3 ∧ H3 D = some (.lst ((l.take i).map fun s => V.str (textOf s)))) ⟨same_new nD, upd_same⟩ (fun i H3 _ h => .inl (.inl (h.1 _ _ hp))) ?_ ?_
    · rintro i y H3 hy ⟨sm, hD⟩
      obtain ⟨a, ha, rfl⟩ : ∃ a, ts[i]? = some a ∧ y = V.ref a := by
        rw [List.getElem?_map] at hy
        cases e : ts[i]? with
        | none => rw [e] at hy; cases hy
        | some a => rw [e] at hy; exact ⟨a, rfl, (Option.some.inj hy).symm⟩
      have hi : i < l.length := by rw [← len]; exact (List.getElem?_eq_some_iff.mp ha).1
      have hl : l[i]? = some l[i] := List.getElem?_eq_getElem hi
      obtain ⟨a', ha', tu⟩ := paired_at pr hl
      rw [ha] at ha'
      obtain rfl := Option.some.inj ha'
      have mem := List.getElem_mem hi
      refine ⟨rfl, yes ?_⟩
      refine iteT ?_
      have small : ((l.take i).map fun s => V.str (textOf s)).length < sizeLine := by
        rw [List.length_map, List.length_take]
        exact small5 (by omega)
      refine ⟨_, rfl, a, l[i], rfl, .inl (.inl (sm _ _ tu)), (ok _ mem).1, (ok _ mem).2, _, hD, small, ?_, ?_⟩
      · intro b o e
        rw [upd_ne (ne_of_none e nD)]
        exact sm _ _ e
      · rw [upd_same, List.take_add_one, hl, List.map_append]
        rfl
    · rintro H3 ⟨sm, hD⟩
      rw [List.length_map, len, List.take_length] at hD
      have hD' : H3 D = some (.lst ((l.map textOf).map V.str)) := by rw [hD, List.map_map]; rfl
      refine ⟨_, D, l.map textOf, rfl, rfl, .inl (.inl (.inl hD')), ?_, ?_⟩
      · have h1 := sum_le (ys := l.map textOf) (n := 1003) (by
          intro y hy
          obtain ⟨s, hs, rfl⟩ := List.mem_map.mp hy
          exact textOf_len (ok s hs).2)
        rw [List.length_map] at h1
        have e0 : ("" : Str).length = 0 := rfl
        rw [e0, Nat.mul_zero]
        have h2 : l.length * 1003 ≤ 3000 * 1003 := Nat.mul_le_mul_right _ few
        omega
      · rw [join_glue]
        exact q H3 sm
theorem ok_split (F : Fun K "split" "split" s_split f fd) (z : Z mg) (cplain : Cal P w K mg base "_plain" 1 ["characters"] spPlain) (ctext_of : Cal P w K mg base "_text_of" 1 ["segment"] (spTextOf K))
    (csegment_at : Cal P w K mg base "_segment_at" 2 ["name", "text", "at"] spSegAt) : FnOk P w K mg base CX0 3 f fd ["name", "text"] spSplit := by
  refine F.ok sc_split (fun vs H Q E h => ?_) (fun cdv A outer s H vs Q E hr h => ?_)
  · obtain ⟨nm, t, rfl, _⟩ := h
    rfl
  · obtain ⟨nm, t, rfl, few, q⟩ := h
    refine ⟨_, (pss_cons (ps_set (i := 2) sc_split.nd rfl (Or.inl rfl) (pe_lst pa_nil))
      (pss_cons (ps_set (i := 3) sc_split.nd rfl (Or.inl rfl) pe_int)
      (pss_cons (ps_set (i := 4) sc_split.nd rfl (Or.inl rfl) pe_int)
      (pss_cons (ps_while PassesOwn.never (pt_cmpR op_lt (pv 4) (pe_callB call_len_str (by rfl) z.len PySem.boot_len (pa_cons (pv 1) pa_nil)) (nomark _))
        (pss_cons (ps_set (i := 5) sc_split.nd rfl (Or.inl rfl) (pe_cal csegment_at (hr.mono (by decide)) (by rfl) (pa_cons (pv 0) (pa_cons (pv 1) (pa_cons (pv 4) pa_nil)))))
        (pss_one (ps_if (pt_cmpR op_isN (pv 5) pe_non (nomark _))
          (pss_one (ps_aug (i := 4) sc_split.nd rfl (Or.inl rfl) pe_int ip_add))
          (pss_cons (ps_expr (pe_bm PySem.F.plainAttrs_list PySem.F.slot_list_extend PySem.F.type_list_extend mt_extend (pv 2) (pa_cons (pe_cal cplain (hr.mono (by decide)) (by rfl) (pa_cons (pe_slice sl_str (pv 1) (po_some (pv 3)) (po_some (pv 4))) pa_nil)) pa_nil)))
          (pss_cons (ps_expr (pe_bm PySem.F.plainAttrs_list PySem.F.slot_list_append PySem.F.type_list_append mt_append (pv 2) (pa_cons (pv 5) pa_nil)))
          (pss_cons (ps_aug (i := 4) sc_split.nd rfl (Or.inl rfl) (pe_callB call_len_str (by rfl) z.len PySem.boot_len (pa_cons (pe_cal ctext_of (hr.mono (by decide)) (by rfl) (pa_cons (pv 5) pa_nil)) pa_nil)) ip_add)
          (pss_one (ps_set (i := 3) sc_split.nd rfl (Or.inl rfl) (pv 4))))))))))
      (pss_cons (ps_expr (pe_bm PySem.F.plainAttrs_list PySem.F.slot_list_extend PySem.F.type_list_extend mt_extend (pv 2) (pa_cons (pe_cal cplain (hr.mono (by decide)) (by rfl) (pa_cons (pe_slice sl_str (pv 1) (po_some (pv 3)) po_none) pa_nil)) pa_nil)))
      (pss_one (ps_ret (pv 2)))))))), ?_⟩
    refine ⟨Nat.zero_le _, fun S nS => ?_⟩
    have lenAll := segs_few nameB (aft nm) t t.length 0 0 rfl (Nat.zero_le _)
    -- while at < len(text)
    refine ⟨fun m σ H3 => ∃ (y5 : Option V) (done i : Nat) (pre : List Seg), σ = [some (.str nm), some (.str t), some (.ref S), some (.int (done : Nat)), some (.int (i : Nat)), y5] ∧ Same H H3 ∧ SegsAt H3 S pre ∧
      done ≤ i ∧ i + m = t.length ∧ pre ++ segs nameB (aft nm) t done i = segs nameB (aft nm) t 0 0, ⟨t.length, _, 0, 0, [], rfl, same_new nS, ⟨[], upd_same, .nil⟩, Nat.le_refl _, by omega, rfl⟩, ?_⟩
    rintro m σ H3 ⟨y5, done, i, pre, rfl, sm, sa, di, em, tot⟩
    refine ⟨_, rfl, _, rfl, t, rfl, sizeLine_big (by omega), _, _, rfl, rfl, _, rfl, ite2 (fun e => ?_) (fun e => ?_)⟩
    · have lt : i < t.length := by have := of_decide_eq_true e; omega
      refine ⟨fun σ H3 => ∃ m', m' < m ∧ ∃ (y5 : Option V) (done i : Nat) (pre : List Seg), σ = [some (.str nm), some (.str t), some (.ref S), some (.int (done : Nat)), some (.int (i : Nat)), y5] ∧ Same H H3 ∧ SegsAt H3 S pre ∧
        done ≤ i ∧ i + m' = t.length ∧ pre ++ segs nameB (aft nm) t done i = segs nameB (aft nm) t 0 0, fun σ' H' h => h, ?_⟩
      -- what begins here
      refine ⟨_, rfl, _, rfl, _, rfl, nm, t, i, rfl, lt, few, fun H4 s4 => ?_⟩
      constructor
      · intro bn
        refine ⟨_, rfl, rfl, _, rfl, iteT ?_⟩
        refine ⟨_, rfl, _, _, rfl, rfl, m - 1, by omega, _, done, i + 1, pre, rfl, sm.trans s4, sa.same s4, by omega, by omega, ?_⟩
        rw [← segs_none lt bn]
        exact tot
      · intro k x en bs p np hp
        obtain ⟨b1, b2, b3, b4, b5⟩ := brk_is bs
        refine ⟨_, rfl, rfl, _, rfl, iteF ?_⟩
        obtain ⟨ts, hS, pr⟩ := sa.same s4
        have neS : p ≠ S := ne_of hp hS (by intro z; cases z)
        -- the plain signs so far
        refine ⟨.ref S, rfl, .inl ⟨rfl, _, .inl (.inl hS)⟩, _, rfl, _, rfl, _, rfl, _, rfl, _, rfl, t, rfl, sizeLine_big (by omega), _, rfl, fun H5 pp s5 npp ⟨us, hpp, pr2⟩ => ?_⟩
        have hS5 := s5 _ _ hS
        have cs : cutS t (some ((done : Nat) : Int)) (some ((i : Nat) : Int)) = sub t done i := cut_sub t done i
        rw [cs] at pr2
        have pr5 : Paired (TupS H5) ts pre := Paired.mapP pr fun a g h => s5 _ _ h
        have hp5 := s5 _ _ hp
        have l1 := paired_len pr5
        have l2 := paired_len pr2
        have room : (pre ++ (Pg.plain (sub t done i) ++ ((k, x) :: segs nameB (aft nm) t en en))).length ≤ 2001 := by
          rw [← segs_some lt bs, tot]
          omega
        rw [List.length_append, List.length_append, List.length_cons] at room
        have both : Paired (TupS (upd H5 S (.lst (ts.map V.ref ++ us.map V.ref)))) (ts ++ us) (pre ++ Pg.plain (sub t done i)) := tups_upd hS5 (paired_app pr5 pr2)
        have hp6 : (upd H5 S (.lst (ts.map V.ref ++ us.map V.ref))) p = some (.tup [.str k, .str x]) := by rw [upd_ne neS]; exact hp5
        refine ⟨S, pp, _, _, rfl, rfl, hS5, hpp, sizeLine_big (by rw [List.length_map, List.length_map]; omega), ?_⟩
        -- the segment itself
        refine ⟨.ref S, rfl, .inl ⟨rfl, _, .inl (.inl upd_same)⟩, _, rfl, S, _, _, rfl, rfl, upd_same, small5 (by rw [List.length_append, List.length_map, List.length_map]; omega), ?_⟩
        have sa2 : SegsAt (upd (upd H5 S (.lst (ts.map V.ref ++ us.map V.ref))) S (.lst ((ts.map V.ref ++ us.map V.ref) ++ [.ref p]))) S ((pre ++ Pg.plain (sub t done i)) ++ [(k, x)]) := by
          have := SegsAt.push (p := S) (q := p) (s := (k, x)) (by rw [upd_same, List.map_append]) both hp6
          rw [List.map_append] at this
          exact this
        have hp7 : (upd (upd H5 S (.lst (ts.map V.ref ++ us.map V.ref))) S (.lst ((ts.map V.ref ++ us.map V.ref) ++ [.ref p]))) p = some (.tup [.str k, .str x]) := by rw [upd_ne neS]; exact hp6
        have smE : Same H (upd (upd H5 S (.lst (ts.map V.ref ++ us.map V.ref))) S (.lst ((ts.map V.ref ++ us.map V.ref) ++ [.ref p]))) := by
          intro o u e
          rw [upd_ne (ne_of_none e nS), upd_ne (ne_of_none e nS)]
          exact s5 _ _ (s4 _ _ (sm _ _ e))
        -- behind it
        have tl : (textOf (k, x)).length = en - i := by rw [b3, sub_len b2]
        refine ⟨_, rfl, _, rfl, p, (k, x), rfl, .inl (.inl hp7), Or.inr b4, (by show x.length ≤ 1000; omega), _, rfl, sizeLine_big (by rw [tl]; omega), _, _, rfl, rfl, ?_⟩
        have ee : ((i : Nat) : Int) + (((textOf (k, x)).length : Nat) : Int) = ((en : Nat) : Int) := by rw [tl]; omega
        refine ⟨_, rfl, t.length - en, by omega, some (.ref p), en, en, (pre ++ Pg.plain (sub t done i)) ++ [(k, x)], ?_, smE, sa2, Nat.le_refl _, by omega, ?_⟩
        · rw [← ee]
          rfl
        · rw [← tot, segs_some lt bs]
          simp only [List.append_assoc, List.singleton_append]
    · have fin : i = t.length := by
        by_cases h : i < t.length
        · exact absurd (decide_eq_true (by omega)) e
        · omega
      rw [segs_end (by omega)] at tot
      obtain ⟨ts, hS, pr⟩ := sa
      refine ⟨.ref S, rfl, .inl ⟨rfl, _, .inl (.inl hS)⟩, _, rfl, _, rfl, _, rfl, t, rfl, sizeLine_big (by omega), _, rfl, fun H5 pp s5 npp ⟨us, hpp, pr2⟩ => ?_⟩
      have hS5 := s5 _ _ hS
      have cs : cutS t (some ((done : Nat) : Int)) none = sub t done t.length := cut_from t done
      rw [cs] at pr2
      have pr5 : Paired (TupS H5) ts pre := Paired.mapP pr fun a g h => s5 _ _ h
      have l1 := paired_len pr5
      have l2 := paired_len pr2
      have room : (pre ++ Pg.plain (sub t done t.length)).length ≤ 2001 := by
        rw [tot]
        omega
      rw [List.length_append] at room
      refine ⟨S, pp, _, _, rfl, rfl, hS5, hpp, sizeLine_big (by rw [List.length_map, List.length_map]; omega), ?_⟩
      refine ⟨.ref S, rfl, q _ S ?_ nS ?_⟩
      · intro o u e
        rw [upd_ne (ne_of_none e nS)]
        exact s5 _ _ (sm _ _ e)
      · rw [← tot]
        exact ⟨ts ++ us, by rw [upd_same, List.map_append], tups_upd hS5 (paired_app pr5 pr2)⟩
end
end K02

namespace K02
open PySem PySem.Spec PyProof.Rows L2 Pg
def spBracket : Sp := fun vs H Q _ => ∃ (nm t : Str) (i : Nat), vs = [.str nm, .str t, .int (i : Nat)] ∧ i < t.length ∧ t.length ≤ 1000 ∧
  ∀ H', Same H H' → (brk nameB (aft nm) t i = none → Q .non H') ∧ ∀ k z e, brk nameB (aft nm) t i = some (k, z, e) → ∀ p, H p = none → H' p = some (.lst [.str k, .str z, .int (e : Nat)]) → Q (.ref p) H'
def spSplitL : Sp := fun vs H Q _ => ∃ nm t : Str, vs = [.str nm, .str t] ∧ t.length ≤ 1000 ∧ Codes t ∧ ∀ (H' : Hp) (p : Addr), Same H H' → H p = none → SegsAt H' p (segs nameB (aft nm) t 0 0) → Q (.ref p) H'
theorem sign_is {c d : Nat} : V.str ⟨#[c]⟩ = V.str ⟨#[d]⟩ ↔ c = d := by
  constructor
  · intro h
    have h2 := congrArg cd (V.str.inj h)
    simpa using h2
  · rintro rfl
    rfl
theorem s64 : ("@" : Str) = ⟨#[64]⟩ := by decide +kernel
section
variable {P : Program} {w : World} {K : PySem.W.Frag} {mg : Str → Option Value} {base : Heap} {f sg : Addr} {fd : FuncData}
theorem ok_law_bracket (F : Fun K "_law_bracket" "_law_bracket" s_law_bracket f fd) (z : Z mg) (claw_is_name : Cal P w K mg base "_law_is_name" 1 ["text"] spIsName) : FnOk P w K mg base CX0 2 f fd ["name", "text", "at"] spBracket := by
  refine F.ok sc_law_bracket (fun vs H Q E h => ?_) (fun cdv A outer s H vs Q E hr h => ?_)
  · obtain ⟨nm, t, i, rfl, _⟩ := h
    rfl
  · obtain ⟨nm, t, i, rfl, lt, few, q⟩ := h
    refine ⟨_, (C8.pss_cut (ps_if (pt_cmpR op_eq (pe_ix ix_str (pv 1) (pv 2) (fun _ _ => rfl)) pe_str (nomark _))
        (pss_cons (ps_set (i := 3) sc_law_bracket.nd rfl (Or.inl rfl) (pe_bm PySem.F.plainAttrs_str PySem.F.slot_str_find PySem.F.type_str_find mt_find3 (pv 1) (pa_cons pe_str (pa_cons (pv 2) pa_nil))))
        (pss_one (ps_if (PW.pt (pw_and (pt_cmpR op_gt (pv 3) pe_int (nomark _)) (pw_and1 (pt_val (pe_cal claw_is_name (hr.mono (by decide)) (by rfl) (pa_cons (pe_slice sl_str (pv 1) (po_some (pe_op op_add (pv 2) pe_int)) (po_some (pv 3))) pa_nil))))))
          (pss_one (ps_ret (pe_lst (pa_cons pe_str (pa_cons (pe_slice sl_str (pv 1) (po_some (pe_op op_add (pv 2) pe_int)) (po_some (pv 3))) (pa_cons (pe_op op_add (pv 3) pe_int) pa_nil))))))
          pss_nil)))
        pss_nil)
      (pss_cons (ps_if (pt_cmpR op_eq (pe_ix ix_str (pv 1) (pv 2) (fun _ _ => rfl)) pe_str (nomark _))
        (pss_cons (ps_set (i := 3) sc_law_bracket.nd rfl (Or.inl rfl) (pe_bm PySem.F.plainAttrs_str PySem.F.slot_str_find PySem.F.type_str_find mt_find3 (pv 1) (pa_cons pe_str (pa_cons (pv 2) pa_nil))))
        (pss_cons (ps_set (i := 4) sc_law_bracket.nd rfl (Or.inl rfl) (pe_callTy call_int1 (by rfl) z.int (by decide +kernel) (pa_cons (pe_cmpR op_eq (pe_slice sl_str (pv 1) (po_some (pe_op op_add (pv 2) pe_int)) (po_some (pe_op op_add (pv 2) pe_int))) pe_str (nomark _)) pa_nil)))
        (pss_cons (ps_set (i := 5) sc_law_bracket.nd rfl (Or.inl rfl) (pe_slice sl_str (pv 1) (po_some (pe_op op_add (pe_op op_add (pv 2) pe_int) (pv 4))) (po_some (pe_callB (call_max2 rfl) (by rfl) z.max (by decide +kernel) (pa_cons (pv 3) (pa_cons pe_int pa_nil))))))
        (pss_one (ps_if (PW.pt (pw_and (pt_cmpR op_gt (pv 3) pe_int (nomark _)) (pw_and (pt_val (pe_cal claw_is_name (hr.mono (by decide)) (by rfl) (pa_cons (pv 5) pa_nil))) (pw_and1 (pt_cmpR op_gt_str (pv 5) (pv 0) (nomark _))))))
          (pss_one (ps_ret (pe_lst (pa_cons (pe_ix ix_list (pe_lst (pa_cons pe_str (pa_cons pe_str pa_nil))) (pv 4) (fun _ _ => rfl)) (pa_cons (pv 5) (pa_cons (pe_op op_add (pv 3) pe_int) pa_nil))))))
          pss_nil)))))
        pss_nil)
      (pss_one (ps_ret pe_non)))), ?_⟩
    have lt' : i < (cd t).length := by rw [← cd_len]; exact lt
    obtain ⟨c, hc⟩ : ∃ c, (cd t)[i]? = some c := ⟨_, List.getElem?_eq_getElem lt'⟩
    have at_i : atI t.cps.toList ((i : Nat) : Int) = some c := atI_nat hc
    have c1 : ((i : Nat) : Int) + 1 = ((i + 1 : Nat) : Int) := by omega
    refine ⟨fun σ' H' => (∃ y3 : Option V, σ' = [some (.str nm), some (.str t), some (.int (i : Nat)), y3, none, none]) ∧ H' = H ∧ (c = 91 → brk nameB (aft nm) t i = none), ?_, ?_⟩
    · refine ⟨_, rfl, _, rfl, t, _, c, rfl, rfl, sizeLine_big (by omega), at_i, rfl, _, rfl, ite2 (fun e => ?_) (fun e => ?_)⟩
      · have e1 : c = 91 := by
          have := of_decide_eq_true e
          rw [s91] at this
          exact sign_is.mp this
        subst e1
        have st : closeAt t 93 i = closeAt t 93 (i + 1) := close_step hc (by decide)
        have fc := find_close t 93 i
        rw [st] at fc
        refine ⟨_, rfl, rfl, _, rfl, t, ⟨#[93]⟩, _, rfl, (by rw [s93]), ?_⟩
        generalize hfd : Txt.find3 t ⟨#[93]⟩ ((i : Nat) : Int) = fd at *
        cases hcl : closeAt t 93 (i + 1) with
        | none =>
          rw [hcl] at fc
          have fc : fd = -1 := fc
          subst fc
          refine ⟨_, rfl, _, _, rfl, rfl, _, rfl, ite2 (fun e => absurd e (by decide)) (fun _ => ⟨⟨_, rfl⟩, rfl, fun _ => ?_⟩)⟩
          unfold brk
          rw [if_pos hc, hcl]
        | some en =>
          rw [hcl] at fc
          have fc : fd = (en : Int) := fc
          subst fc
          obtain ⟨cl1, cl2, _⟩ := close_is hcl
          have cs : cutS t (some (((i : Nat) : Int) + 1)) (some ((en : Nat) : Int)) = sub t (i + 1) en := by rw [c1]; exact cut_sub t (i + 1) en
          have il : (sub t (i + 1) en).length ≤ 1000 := by rw [sub_len (by omega)]; omega
          refine ⟨_, rfl, _, _, rfl, rfl, _, rfl, ite2 (fun _ => ?_) (fun e => absurd (decide_eq_true (by omega)) e)⟩
          refine ⟨_, rfl, _, rfl, _, _, rfl, rfl, _, rfl, _, rfl, _, rfl, t, rfl, sizeLine_big (by omega), _, rfl, (by rw [cs]; exact il), _, rfl, ite2 (fun e => ?_) (fun e => ?_)⟩
          · rw [cs] at e
            refine ⟨_, rfl, _, rfl, _, _, rfl, rfl, _, rfl, _, rfl, _, rfl, t, rfl, sizeLine_big (by omega), _, rfl, _, _, rfl, rfl, (by show 3 ≤ sizeLine; decide), fun p np => ?_⟩
            have bs : brk nameB (aft nm) t i = some (("link" : Str), sub t (i + 1) en, en + 1) := by
              unfold brk
              rw [if_pos hc, hcl]
              exact if_pos e
            refine (q _ (same_new np)).2 _ _ _ bs p np ?_
            rw [upd_same, cs]
            rfl
          · rw [cs] at e
            refine ⟨⟨_, rfl⟩, rfl, fun _ => ?_⟩
            unfold brk
            rw [if_pos hc, hcl]
            exact if_neg e
      · have e1 : ¬ c = 91 := fun h => e (decide_eq_true (by rw [h, s91]))
        exact ⟨⟨_, rfl⟩, rfl, fun h => absurd h e1⟩
    · rintro σ H' ⟨⟨y3, rfl⟩, rfl, b91⟩
      refine ⟨_, rfl, _, rfl, t, _, c, rfl, rfl, sizeLine_big (by omega), at_i, rfl, _, rfl, ite2 (fun e => ?_) (fun e => ?_)⟩
      · have e1 : c = 60 := by
          have := of_decide_eq_true e
          rw [s60] at this
          exact sign_is.mp this
        subst e1
        have n91 : ¬ (cd t)[i]? = some 91 := by rw [hc]; simp
        have st : closeAt t 62 i = closeAt t 62 (i + 1) := close_step hc (by decide)
        have fc := find_close t 62 i
        rw [st] at fc
        refine ⟨_, rfl, rfl, _, rfl, t, ⟨#[62]⟩, _, rfl, (by rw [s62]), ?_⟩
        generalize hfd : Txt.find3 t ⟨#[62]⟩ ((i : Nat) : Int) = fd at *
        have cs1 : cutS t (some (((i : Nat) : Int) + 1)) (some (((i : Nat) : Int) + 2)) = sub t (i + 1) (i + 2) := by
          rw [c1, show ((i : Nat) : Int) + 2 = ((i + 2 : Nat) : Int) by omega]
          exact cut_sub t (i + 1) (i + 2)
        refine ⟨_, rfl, _, rfl, _, _, rfl, rfl, _, rfl, _, rfl, _, _, rfl, rfl, _, rfl, t, rfl, sizeLine_big (by omega), rfl, .inr ⟨_, rfl, ?_⟩⟩
        have is64 : decide (V.str (cutS t (some (((i : Nat) : Int) + 1)) (some (((i : Nat) : Int) + 2))) = V.str "@") = decide ((cd t)[i + 1]? = some 64) := by
          rw [cs1, s64]
          by_cases h : (cd t)[i + 1]? = some 64
          · rw [decide_eq_true h, decide_eq_true (by rw [sub_one h])]
          · rw [decide_eq_false h, decide_eq_false fun e => h ((sub_is1 t (i + 1) 64).mp (V.str.inj e))]
        rw [is64]
        have bk : brk nameB (aft nm) t i = match closeAt t 62 (i + 1) with
            | some e =>
              if (cd t)[i + 1]? = some 64 then (if (nameB (sub t (i + 2) e) && aft nm (sub t (i + 2) e)) = true then some ("indirect", sub t (i + 2) e, e + 1) else none)
              else (if (nameB (sub t (i + 1) e) && aft nm (sub t (i + 1) e)) = true then some ("include", sub t (i + 1) e, e + 1) else none)
            | none => none := by
          unfold brk
          rw [if_neg n91, if_pos hc]
          all_goals rfl
        cases hcl : closeAt t 62 (i + 1) with
        | none =>
          rw [hcl] at fc bk
          have fc : fd = -1 := fc
          subst fc
          refine ⟨_, rfl, _, rfl, _, _, rfl, rfl, _, rfl, _, _, rfl, rfl, _, rfl, _, rfl, _, _, rfl, _, rfl, t, rfl, sizeLine_big (by omega), ?_⟩
          refine ⟨_, rfl, _, _, rfl, rfl, _, rfl, ite2 (fun e => absurd e (by decide)) (fun _ => ?_)⟩
          exact (q H' (Same.refl H')).1 bk
        | some en =>
          rw [hcl] at fc bk
          have fc : fd = (en : Int) := fc
          subst fc
          obtain ⟨cl1, cl2, cl3, _⟩ := close_is hcl
          have mx : (if (0 : Int) > ((en : Nat) : Int) then (0 : Int) else ((en : Nat) : Int)) = ((en : Nat) : Int) := if_neg (by omega)
          have pos : decide ((0 : Int) < ((en : Nat) : Int)) = true := decide_eq_true (by omega)
          by_cases h3 : (cd t)[i + 1]? = some 64
          · have bk := bk.trans (if_pos h3)
            have g1 : i + 2 ≤ en := by
              by_cases e : en = i + 1
              · subst e
                rw [h3] at cl3
                cases cl3
              · omega
            have skip : (if decide ((cd t)[i + 1]? = some 64) = true then (1 : Int) else 0) = 1 := if_pos (decide_eq_true h3)
            have il : (sub t (i + 2) en).length ≤ 1000 := by rw [sub_len (by omega)]; omega
            have cs : cutS t (some (((i : Nat) : Int) + 1 + (if decide ((cd t)[i + 1]? = some 64) = true then 1 else 0))) (some (if (0 : Int) > ((en : Nat) : Int) then (0 : Int) else ((en : Nat) : Int))) = sub t (i + 2) en := by
              rw [mx, skip, show ((i : Nat) : Int) + 1 + 1 = ((i + 2 : Nat) : Int) by omega]
              exact cut_sub t (i + 2) en
            refine ⟨_, rfl, _, rfl, _, _, rfl, rfl, _, rfl, _, _, rfl, rfl, _, rfl, _, rfl, _, _, rfl, _, rfl, t, rfl, sizeLine_big (by omega), ?_⟩
            refine ⟨_, rfl, _, _, rfl, rfl, _, rfl, ite2 (fun _ => ?_) (fun e => absurd pos e)⟩
            refine ⟨_, rfl, _, rfl, (by rw [cs]; exact il), _, rfl, ite2 (fun e => ?_) (fun e => ?_)⟩
            · rw [cs] at e
              refine ⟨_, rfl, _, rfl, _, _, rfl, rfl, _, rfl, ite2 (fun e2 => ?_) (fun e2 => ?_)⟩
              · rw [cs] at e2
                have e2 : aft nm (sub t (i + 2) en) = true := e2
                have bs : brk nameB (aft nm) t i = some (("indirect" : Str), sub t (i + 2) en, en + 1) := bk.trans (if_pos (by rw [e, e2]; rfl))
                refine ⟨(by show 2 ≤ sizeLine; decide), fun p0 np0 => ?_⟩
                refine ⟨_, rfl, p0, _, _, .str "indirect", rfl, rfl, .inl (.inl upd_same), (by rw [skip]; rfl), ?_⟩
                refine ⟨_, rfl, _, rfl, _, _, rfl, rfl, (by show 3 ≤ sizeLine; decide), fun p np => ?_⟩
                refine (q _ ((same_new np0).trans (same_new np))).2 _ _ _ bs p ((same_new np0).free np) ?_
                rw [upd_same, cs]
                rfl
              · rw [cs] at e2
                have e2 : ¬ aft nm (sub t (i + 2) en) = true := e2
                exact (q H' (Same.refl H')).1 (bk.trans (if_neg fun h => e2 (Bool.and_eq_true_iff.mp h).2))
            · rw [cs] at e
              exact (q H' (Same.refl H')).1 (bk.trans (if_neg fun h => e (Bool.and_eq_true_iff.mp h).1))
          · have bk := bk.trans (if_neg h3)
            have skip : (if decide ((cd t)[i + 1]? = some 64) = true then (1 : Int) else 0) = 0 := if_neg (by rw [decide_eq_false h3]; decide)
            have il : (sub t (i + 1) en).length ≤ 1000 := by rw [sub_len (by omega)]; omega
            have cs : cutS t (some (((i : Nat) : Int) + 1 + (if decide ((cd t)[i + 1]? = some 64) = true then 1 else 0))) (some (if (0 : Int) > ((en : Nat) : Int) then (0 : Int) else ((en : Nat) : Int))) = sub t (i + 1) en := by
              rw [mx, skip, show ((i : Nat) : Int) + 1 + 0 = ((i + 1 : Nat) : Int) by omega]
              exact cut_sub t (i + 1) en
            refine ⟨_, rfl, _, rfl, _, _, rfl, rfl, _, rfl, _, _, rfl, rfl, _, rfl, _, rfl, _, _, rfl, _, rfl, t, rfl, sizeLine_big (by omega), ?_⟩
            refine ⟨_, rfl, _, _, rfl, rfl, _, rfl, ite2 (fun _ => ?_) (fun e => absurd pos e)⟩
            refine ⟨_, rfl, _, rfl, (by rw [cs]; exact il), _, rfl, ite2 (fun e => ?_) (fun e => ?_)⟩
            · rw [cs] at e
              refine ⟨_, rfl, _, rfl, _, _, rfl, rfl, _, rfl, ite2 (fun e2 => ?_) (fun e2 => ?_)⟩
              · rw [cs] at e2
                have e2 : aft nm (sub t (i + 1) en) = true := e2
                have bs : brk nameB (aft nm) t i = some (("include" : Str), sub t (i + 1) en, en + 1) := bk.trans (if_pos (by rw [e, e2]; rfl))
                refine ⟨(by show 2 ≤ sizeLine; decide), fun p0 np0 => ?_⟩
                refine ⟨_, rfl, p0, _, _, .str "include", rfl, rfl, .inl (.inl upd_same), (by rw [skip]; rfl), ?_⟩
                refine ⟨_, rfl, _, rfl, _, _, rfl, rfl, (by show 3 ≤ sizeLine; decide), fun p np => ?_⟩
                refine (q _ ((same_new np0).trans (same_new np))).2 _ _ _ bs p ((same_new np0).free np) ?_
                rw [upd_same, cs]
                rfl
              · rw [cs] at e2
                have e2 : ¬ aft nm (sub t (i + 1) en) = true := e2
                exact (q H' (Same.refl H')).1 (bk.trans (if_neg fun h => e2 (Bool.and_eq_true_iff.mp h).2))
            · rw [cs] at e
              exact (q H' (Same.refl H')).1 (bk.trans (if_neg fun h => e (Bool.and_eq_true_iff.mp h).1))
      · have e1 : ¬ c = 60 := fun h => e (decide_eq_true (by rw [h, s60]))
        refine (q H' (Same.refl H')).1 ?_
        by_cases h : c = 91
        · exact b91 h
        · unfold brk
          rw [hc, if_neg (by simpa using h), if_neg (by simpa using e1)]
end
end K02

namespace K02
open PySem PySem.Spec PyProof.Rows L2 Pg
theorem plain_self (t : Str) (i : Nat) : Pg.plain (sub t i i) = [] := by
  unfold Pg.plain
  rw [sub_self, if_pos rfl]
theorem plain_some {z : Str} (h : ¬ z = ⟨#[]⟩) : Pg.plain z = [((("text" : Str), z) : Seg)] := by
  unfold Pg.plain
  rw [if_neg h]
theorem sub_ne {t : Str} {a b : Nat} (h : a < b) (hb : b ≤ t.length) : ¬ sub t a b = ⟨#[]⟩ := by
  intro e
  have h1 := sub_len (t := t) (a := a) hb
  rw [e] at h1
  have h2 : (⟨#[]⟩ : Str).length = 0 := rfl
  omega
theorem sub_grow {t : Str} {a i c : Nat} (h : a ≤ i) (hc : (cd t)[i]? = some c) : sub t a i ++ ⟨#[c]⟩ = sub t a (i + 1) := by
  rw [← sub_one hc, sub_join h (by omega)]
/-- a segment as data -/
def segD (s : Seg) : PyData := .tuple [.str s.1, .str s.2]
theorem SegsAt.dp {K : PySem.W.Frag} {H : Hp} {p : Addr} {l : List Seg} (x : SegsAt H p l) : Dp K H (.ref p) (.list (l.map segD)) := by
  obtain ⟨ts, e, r⟩ := x
  refine .lst (.inl (.inl e)) ?_
  clear e
  induction r with
  | nil => exact .nil
  | cons h _ ih => exact .cons (.tup (.inl (.inl h)) (.cons (.str _) (.cons (.str _) .nil))) ih
theorem eqv_nil (l : List Seg) : PyData.eqv (.list (l.map segD)) (.list []) = l.isEmpty := by
  cases l with
  | nil => rfl
  | cons s r => rfl
theorem lay_segs {t : Str} (ht : Codes t) : ∀ l : List Seg, (∀ s ∈ l, Fine t s) → PyData.canLayAll0 (l.map segD) = true ∧ PyData.depthAll (l.map segD) ≤ 2
  | [], _ => ⟨rfl, by decide⟩
  | s :: r, h => by
    obtain ⟨h1, h2⟩ := lay_segs ht r fun x hx => h x (List.mem_cons_of_mem _ hx)
    obtain ⟨k1, _, k3⟩ := h s List.mem_cons_self
    have c1 := (kind_codes k1).ok
    have c2 := Codes.ok (z := s.2) fun c hc => ht c (k3 c hc)
    rw [List.map_cons]
    constructor
    · simp only [PyData.canLayAll0, segD, PyData.canLay0, h1, c1, c2, Bool.and_true]
    · simp only [PyData.depthAll, segD, PyData.depth]
      omega
theorem shaped_segs {t : Str} (ht : Codes t) {l : List Seg} (h : ∀ s ∈ l, Fine t s) : SeqAt.shaped (.list (l.map segD)) = true := by
  obtain ⟨h1, h2⟩ := lay_segs ht l h
  unfold SeqAt.shaped
  simp only [PyData.canLay0, h1, PyData.depth, Bool.true_and]
  exact decide_eq_true (by omega)
theorem paired_snoc {α β : Type} {F : α → β → Prop} : ∀ {a : List α} {b : List β} {y : β}, Paired F a (b ++ [y]) → ∃ a' x, a = a' ++ [x] ∧ Paired F a' b ∧ F x y
  | _, [], y, .cons r .nil => ⟨[], _, rfl, .nil, r⟩
  | _, z :: b, y, .cons r t => by
    obtain ⟨a', x, rfl, p, f⟩ := paired_snoc (b := b) t
    exact ⟨_ :: a', x, rfl, .cons r p, f⟩
theorem ixN_last (n : Nat) : ixN (n + 1) (-1) = some n := by
  unfold ixN
  rw [if_neg (by decide), if_pos (by omega)]
  congr 1
  omega
section
variable {P : Program} {w : World} {K : PySem.W.Frag} {mg : Str → Option Value} {base : Heap} {f sg : Addr} {fd : FuncData}
theorem ok_law_split (F : Fun K "_law_split" "_law_split" s_law_split f fd) (z : Z mg) (claw_bracket : Cal P w K mg base "_law_bracket" 2 ["name", "text", "at"] spBracket) : FnOk P w K mg base CX0 3 f fd ["name", "text"] spSplitL := by
  refine F.ok sc_law_split (fun vs H Q E h => ?_) (fun cdv A outer s H vs Q E hr h => ?_)
  · obtain ⟨nm, t, rfl, _⟩ := h
    rfl
  · obtain ⟨nm, t, rfl, few, codes, q⟩ := h
    refine ⟨_, (pss_cons (ps_set (i := 2) sc_law_split.nd rfl (Or.inl rfl) (pe_lst pa_nil))
      (pss_cons (ps_set (i := 3) sc_law_split.nd rfl (Or.inl rfl) pe_int)
      (pss_cons (ps_while PassesOwn.never (pt_cmpR op_lt (pv 3) (pe_callB call_len_str (by rfl) z.len PySem.boot_len (pa_cons (pv 1) pa_nil)) (nomark _))
        (pss_cons (ps_set (i := 4) sc_law_split.nd rfl (Or.inl rfl) (pe_cal claw_bracket (hr.mono (by decide)) (by rfl) (pa_cons (pv 0) (pa_cons (pv 1) (pa_cons (pv 3) pa_nil)))))
        (pss_one (ps_if (pt_cmpR op_notN (pv 4) pe_non (nomark _))
          (pss_cons (ps_expr (pe_bm PySem.F.plainAttrs_list PySem.F.slot_list_append PySem.F.type_list_append mt_append (pv 2) (pa_cons (pe_tup (pa_cons (pe_ix ix_list (pv 4) pe_int (fun _ _ => rfl)) (pa_cons (pe_ix ix_list (pv 4) pe_int (fun _ _ => rfl)) pa_nil))) pa_nil)))
          (pss_one (ps_set (i := 3) sc_law_split.nd rfl (Or.inl rfl) (pe_ix ix_list (pv 4) pe_int (fun _ _ => rfl)))))
          (C8.pss_cut (ps_if (PW.pt (pw_or (pt_cmpR (op_eqD hr.units) (pv 2) (pe_lst pa_nil) (nomark _)) (pw_or1 (pt_cmpR op_ne (pe_ix ix_tup (pe_ix ix_list (pv 2) (pe_un un_neg pe_int) (fun _ _ => rfl)) pe_int (fun _ _ => rfl)) pe_str (nomark _)))))
            (pss_one (ps_expr (pe_bm PySem.F.plainAttrs_list PySem.F.slot_list_append PySem.F.type_list_append mt_append (pv 2) (pa_cons (pe_tup (pa_cons pe_str (pa_cons pe_str pa_nil))) pa_nil))))
            pss_nil)
          (pss_cons (ps_asg (pe_tup (pa_cons pe_str (pa_cons (pe_op op_add_str (pe_ix ix_tup (pe_ix ix_list (pv 2) (pe_un un_neg pe_int) (fun _ _ => rfl)) pe_int (fun _ _ => rfl)) (pe_ix ix_str (pv 1) (pv 3) (fun _ _ => rfl))) pa_nil))) (pg_sub (pv 2) (pe_un un_neg pe_int) set_list))
          (pss_one (ps_set (i := 3) sc_law_split.nd rfl (Or.inl rfl) (pe_op op_add (pv 3) pe_int)))))))))
      (pss_one (ps_ret (pv 2)))))), ?_⟩
    refine ⟨Nat.zero_le _, fun S nS => ?_⟩
    have lenAll := segs_few nameB (aft nm) t t.length 0 0 rfl (Nat.zero_le _)
    refine ⟨fun m σ H3 => ∃ (y4 : Option V) (done i : Nat) (pre : List Seg), σ = [some (.str nm), some (.str t), some (.ref S), some (.int (i : Nat)), y4] ∧ Same H H3 ∧ SegsAt H3 S (pre ++ Pg.plain (sub t done i)) ∧
      done ≤ i ∧ i + m = t.length ∧ pre ++ segs nameB (aft nm) t done i = segs nameB (aft nm) t 0 0 ∧ (∀ s, pre.getLast? = some s → s.1 ≠ "text"), ⟨t.length, _, 0, 0, [], rfl, same_new nS, ⟨[], upd_same, by rw [plain_self]; exact .nil⟩, Nat.le_refl _, by omega, rfl, by intro s h; cases h⟩, ?_⟩
    rintro m σ H3 ⟨y4, done, i, pre, rfl, sm, sa, di, em, tot, last⟩
    refine ⟨_, rfl, _, rfl, t, rfl, sizeLine_big (by omega), _, _, rfl, rfl, _, rfl, ite2 (fun e => ?_) (fun e => ?_)⟩
    · have lt : i < t.length := by have := of_decide_eq_true e; omega
      obtain ⟨c, hc⟩ : ∃ c, (cd t)[i]? = some c := ⟨_, List.getElem?_eq_getElem (by rw [← cd_len]; exact lt)⟩
      refine ⟨fun σ H3 => ∃ m', m' < m ∧ ∃ (y4 : Option V) (done i : Nat) (pre : List Seg), σ = [some (.str nm), some (.str t), some (.ref S), some (.int (i : Nat)), y4] ∧ Same H H3 ∧ SegsAt H3 S (pre ++ Pg.plain (sub t done i)) ∧
        done ≤ i ∧ i + m' = t.length ∧ pre ++ segs nameB (aft nm) t done i = segs nameB (aft nm) t 0 0 ∧ (∀ s, pre.getLast? = some s → s.1 ≠ "text"), fun σ' H' h => h, ?_⟩
      -- what begins here
      refine ⟨_, rfl, _, rfl, _, rfl, nm, t, i, rfl, lt, few, fun H4 s4 => ?_⟩
      obtain ⟨ts, hS, pr⟩ := sa.same s4
      have lts := paired_len pr
      have smS : ∀ {H5 : Hp} {o : HO}, Same H H5 → Same H (upd H5 S o) := fun {H5 o} h b u e => by
        rw [upd_ne (ne_of_none e nS)]
        exact h _ _ e
      constructor
      · intro bn
        have sn := segs_none (done := done) lt bn
        have room : (pre ++ Pg.plain (sub t done i)).length ≤ 2002 := by
          have h1 := congrArg List.length tot
          rw [List.length_append] at h1
          have h2 : (Pg.plain (sub t done i)).length ≤ 1 := by unfold Pg.plain; split <;> simp
          rw [List.length_append]
          omega
        refine ⟨_, rfl, rfl, _, rfl, iteF ?_⟩
        -- perhaps an empty text
        refine ⟨fun σ' H' => σ' = [some (.str nm), some (.str t), some (.ref S), some (.int (i : Nat)), some .non] ∧ Same H H' ∧ SegsAt H' S (pre ++ [((("text" : Str), sub t done i) : Seg)]), ?_, ?_⟩
        · skip
          have shp : SeqAt.shaped (.list ((pre ++ Pg.plain (sub t done i)).map segD)) = true := by
            apply shaped_segs codes
            intro x hx
            rcases List.mem_append.mp hx with hx | hx
            · exact segs_fine nameB (aft nm) t _ 0 0 rfl (Nat.le_refl _) (Nat.zero_le _) x (by rw [← tot]; exact List.mem_append_left _ hx)
            · exact plain_fine (by omega) x hx
          have dp4 : Dp K H4 (.ref S) (.list ((pre ++ Pg.plain (sub t done i)).map segD)) := SegsAt.dp ⟨ts, hS, pr⟩
          refine ⟨_, rfl, Nat.zero_le _, fun E nE => ?_⟩
          have sm5 : Same H (upd H4 E (.lst [])) := (sm.trans s4).trans (same_new nE)
          have hS5 := same_new (o := .lst []) nE _ _ hS
          have dp5 : Dp K (upd H4 E (.lst [])) (.ref S) (.list ((pre ++ Pg.plain (sub t done i)).map segD)) := SegsAt.dp ⟨ts, hS5, Paired.mapP pr fun a g h => same_new nE _ _ h⟩
          have pr5 : Paired (TupS (upd H4 E (.lst []))) ts (pre ++ Pg.plain (sub t done i)) := Paired.mapP pr fun a g h => same_new nE _ _ h
          generalize hH5 : upd H4 E (.lst []) = H5 at *
          refine ⟨_, .list [], dp5, .lst (.inl (.inl (by rw [← hH5, upd_same]))) .nil, shp, by decide, _, rfl, ?_⟩
          rw [eqv_nil]
          by_cases hd : done = i
          · subst hd
            rw [plain_self, List.append_nil] at *
            rcases List.eq_nil_or_concat pre with hpre | ⟨pre', sl, hpre⟩
            · rw [show pre.isEmpty = true by rw [hpre]; rfl]
              refine iteT ?_
              refine iteT ?_
              refine ⟨.ref S, rfl, .inl ⟨rfl, _, .inl (.inl hS5)⟩, (by show 2 ≤ sizeLine; decide), fun u nu => ?_⟩
              have hS6 := same_new (o := .tup [.str "text", .str ""]) nu _ _ hS5
              have pr6 : Paired (TupS (upd H5 u (.tup [.str "text", .str ""]))) ts pre := Paired.mapP pr5 fun a g h => same_new nu _ _ h
              refine ⟨S, _, _, rfl, rfl, hS6, small5 (by rw [List.length_map]; omega), rfl, smS (sm5.trans (same_new nu)), ?_⟩
              rw [sub_self, ← s0]
              exact SegsAt.push (s := (("text" : Str), ("" : Str))) hS6 pr6 upd_same
            · have pr5' := pr5
              rw [hpre, List.concat_eq_append] at pr5'
              obtain ⟨ts', u0, hts, pr', tu⟩ := paired_snoc pr5'
              have nt := last sl (by rw [hpre, List.concat_eq_append, List.getLast?_concat])
              rw [show pre.isEmpty = false by rw [hpre, List.concat_eq_append]; simp]
              refine iteF ?_
              refine ⟨_, rfl, 1, rfl, S, _, _, .ref u0, rfl, rfl, .inl (.inl hS5), (by rw [hts, List.map_append]; exact atI_last _ _), u0, _, _, .str sl.1, rfl, rfl, .inl (.inl tu), atI_nat (j := 0) rfl, rfl, _, rfl, ?_⟩
              rw [show (!decide (V.str sl.1 = V.str "text")) = true by rw [decide_eq_false fun e => nt (V.str.inj e)]; rfl]
              refine iteT ?_
              refine ⟨.ref S, rfl, .inl ⟨rfl, _, .inl (.inl hS5)⟩, (by show 2 ≤ sizeLine; decide), fun u nu => ?_⟩
              have hS6 := same_new (o := .tup [.str "text", .str ""]) nu _ _ hS5
              have pr6 : Paired (TupS (upd H5 u (.tup [.str "text", .str ""]))) ts pre := Paired.mapP pr5 fun a g h => same_new nu _ _ h
              refine ⟨S, _, _, rfl, rfl, hS6, small5 (by rw [List.length_map]; omega), rfl, smS (sm5.trans (same_new nu)), ?_⟩
              rw [sub_self, ← s0]
              exact SegsAt.push (s := (("text" : Str), ("" : Str))) hS6 pr6 upd_same
          · have lt2 : done < i := by omega
            rw [plain_some (sub_ne lt2 (by omega))] at *
            obtain ⟨ts', u0, rfl, pr', tu⟩ := paired_snoc pr5
            rw [show (pre ++ [((("text" : Str), sub t done i) : Seg)]).isEmpty = false by simp]
            refine iteF ?_
            refine ⟨_, rfl, 1, rfl, S, _, _, .ref u0, rfl, rfl, .inl (.inl hS5), (by rw [List.map_append]; exact atI_last _ _), u0, _, _, .str "text", rfl, rfl, .inl (.inl tu), atI_nat (j := 0) rfl, rfl, _, rfl, ?_⟩
            rw [show (!decide (V.str "text" = V.str "text")) = false by rw [decide_eq_true rfl]; rfl]
            refine iteF ⟨rfl, sm5, _, hS5, pr5⟩
        · rintro σ H5 ⟨rfl, s5, ts5, hS5, pr5⟩
          obtain ⟨ts', u, rfl, pr', tu⟩ := paired_snoc pr5
          have hl := atI_last (ts'.map V.ref) (V.ref u)
          rw [List.map_append] at hS5
          have at_i : atI t.cps.toList ((i : Nat) : Int) = some c := atI_nat hc
          have sl2 : (sub t done i).length ≤ 1000 := by rw [sub_len (by omega)]; omega
          refine ⟨.ref S, rfl, 1, rfl, S, _, _, .ref u, rfl, rfl, .inl (.inl hS5), hl, u, _, _, .str (sub t done i), rfl, rfl, .inl (.inl tu), atI_nat (j := 1) rfl, _, rfl, _, rfl, t, _, c, rfl, rfl, sizeLine_big (by omega), at_i, _, _, rfl, rfl,
            sizeLine_big (by show (sub t done i).length + 1 ≤ _; omega), (by show 2 ≤ sizeLine; decide), fun v nv => ?_⟩
          have hS6 := same_new (o := .tup [.str "text", .str (sub t done i ++ ⟨#[c]⟩)]) nv _ _ hS5
          have pr6 : Paired (TupS (upd H5 v (.tup [.str "text", .str (sub t done i ++ ⟨#[c]⟩)]))) ts' pre := Paired.mapP pr' fun a g h => same_new nv _ _ h
          refine ⟨.ref S, rfl, 1, rfl, S, _, _, ts'.length, rfl, rfl, hS6, (by rw [List.length_append, List.length_map]; exact ixN_last _), ?_⟩
          have setl : (ts'.map V.ref ++ [u].map V.ref).set ts'.length (.ref v) = ts'.map V.ref ++ [.ref v] := by
            rw [List.set_append_right _ _ (by rw [List.length_map]; exact Nat.le_refl _), List.length_map, Nat.sub_self]
            rfl
          rw [show (List.map V.ref ts' ++ List.map V.ref [u]).set ts'.length (.ref v) = ts'.map V.ref ++ [.ref v] from setl]
          have c1 : ((i : Nat) : Int) + 1 = ((i + 1 : Nat) : Int) := by omega
          refine ⟨_, rfl, _, _, rfl, rfl, m - 1, by omega, some .non, done, i + 1, pre, by rw [← c1]; rfl, smS (s5.trans (same_new nv)), ?_, by omega, by omega, by rw [← sn]; exact tot, last⟩
          rw [plain_some (sub_ne (by omega) (by omega)), ← sub_grow di hc]
          refine ⟨ts' ++ [v], by rw [upd_same, List.map_append]; rfl, tups_upd hS6 (paired_app pr6 (.cons ?_ .nil))⟩
          exact upd_same
      · intro k x en bs p np hp
        obtain ⟨b1, b2, b3, b4, b5⟩ := brk_is bs
        refine ⟨_, rfl, rfl, _, rfl, iteT ?_⟩
        have neS : p ≠ S := by
          obtain ⟨_, h0, _⟩ := sa
          exact (ne_of_none h0 np).symm
        have ss := segs_some (done := done) lt bs
        have room : (pre ++ Pg.plain (sub t done i)).length ≤ 2001 := by
          have h1 := congrArg List.length tot
          rw [ss, ← List.append_assoc, List.length_append] at h1
          omega
        -- it is noted; on behind it
        refine ⟨.ref S, rfl, .inl ⟨rfl, _, .inl (.inl hS)⟩, _, rfl, p, _, _, .str k, rfl, rfl, .inl (.inl hp), atI_nat (j := 0) rfl, _, rfl, p, _, _, .str x, rfl, rfl, .inl (.inl hp), atI_nat (j := 1) rfl, (by show 2 ≤ sizeLine; decide), fun u nu => ?_⟩
        have hS6 := same_new (o := .tup [.str k, .str x]) nu _ _ hS
        have hp6 := same_new (o := .tup [.str k, .str x]) nu _ _ hp
        have pr6 : Paired (TupS (upd H4 u (.tup [.str k, .str x]))) ts (pre ++ Pg.plain (sub t done i)) := Paired.mapP pr fun a g h => same_new nu _ _ h
        refine ⟨S, _, _, rfl, rfl, hS6, small5 (by rw [List.length_map]; omega), ?_⟩
        have hp7 : (upd (upd H4 u (.tup [.str k, .str x])) S (.lst (ts.map V.ref ++ [.ref u]))) p = some (.lst [.str k, .str x, .int (en : Nat)]) := by rw [upd_ne neS]; exact hp6
        refine ⟨_, rfl, p, _, _, .int (en : Nat), rfl, rfl, .inl (.inl hp7), atI_nat (j := 2) rfl, t.length - en, by omega, some (.ref p), en, en, (pre ++ Pg.plain (sub t done i)) ++ [(k, x)], rfl, smS ((sm.trans s4).trans (same_new nu)), ?_, Nat.le_refl _, by omega, ?_, ?_⟩
        · rw [plain_self, List.append_nil]
          exact SegsAt.push (s := (k, x)) hS6 pr6 upd_same
        · rw [← tot, ss]
          simp only [List.append_assoc, List.singleton_append]
        · intro s hs
          rw [List.getLast?_concat] at hs
          rw [← Option.some.inj hs]
          exact kinds_no k b4
    · have fin : i = t.length := by
        by_cases h : i < t.length
        · exact absurd (decide_eq_true (by omega)) e
        · omega
      rw [segs_end (by omega)] at tot
      subst fin
      refine ⟨.ref S, rfl, q _ S sm nS ?_⟩
      rw [← tot]
      exact sa
end
end K02

namespace K02
open PySem PySem.Spec PyProof.Rows L2 Pg
/-- segs, with fuel -/
def segsF (N A : Str → Bool) (t : Str) : Nat → Nat → Nat → List Seg
  | 0, done, _ => Pg.plain (sub t done t.length)
  | m + 1, done, i => if i < t.length then match brk N A t i with
      | none => segsF N A t m done (i + 1)
      | some (k, z, e) => Pg.plain (sub t done i) ++ ((k, z) :: segsF N A t m e e)
    else Pg.plain (sub t done t.length)
theorem segsF_eq (N A : Str → Bool) (t : Str) : ∀ (m done i : Nat), t.length - i ≤ m → segsF N A t m done i = segs N A t done i := by
  intro m
  induction m with
  | zero =>
    intro done i h
    rw [segs_end (by omega)]
    rfl
  | succ m ih =>
    intro done i h
    unfold segsF
    by_cases lt : i < t.length
    · rw [if_pos lt]
      cases b : brk N A t i with
      | none =>
        rw [segs_none lt b]
        exact ih done (i + 1) (by omega)
      | some r =>
        obtain ⟨k, z, e⟩ := r
        obtain ⟨b1, b2, _⟩ := brk_is b
        rw [segs_some lt b]
        show Pg.plain (sub t done i) ++ ((k, z) :: segsF N A t m e e) = _
        rw [ih e e (by omega)]
    · rw [if_neg lt, segs_end lt]
def text1 : Str := "x<c><@d>y<a>[b]"
def found1 : List Seg := [("text", "x"), ("include", "c"), ("indirect", "d"), ("text", "y<a>"), ("link", "b")]
theorem segs_text1 : segs nameB (aft "b") text1 0 0 = found1 := by
  rw [← segsF_eq _ _ _ 20 0 0 (by decide +kernel)]
  decide +kernel
theorem segs_empty (N A : Str → Bool) : segs N A "" 0 0 = [] := by
  rw [← segsF_eq _ _ _ 0 0 0 (by decide +kernel)]
  exact plain_self "" 0
theorem bulk_segs {t : Str} (few : t.length ≤ 60) : ∀ l : List Seg, (∀ s ∈ l, Fine t s) → PyData.bulkAll (l.map segD) ≤ 80 * l.length ∧ (Codes t → PyData.leavesShortAll 13 (l.map segD) = true) ∧ PyData.showableAll (l.map segD) = true
  | [], _ => ⟨by decide, fun _ => rfl, rfl⟩
  | s :: r, h => by
    obtain ⟨h1, h2, h3⟩ := bulk_segs few r fun x hx => h x (List.mem_cons_of_mem _ hx)
    obtain ⟨k1, k2, k3⟩ := h s List.mem_cons_self
    have hk : s.1.cps.size ≤ 8 := by
      have m : s.1 ∈ (("text" : Str) :: kinds) := by
        rcases k1 with h | h
        · rw [h]; exact List.mem_cons_self
        · exact List.mem_cons_of_mem _ h
      exact (kinds_codes _ m).2
    have hs : s.2.cps.size ≤ 60 := Nat.le_trans k2 few
    rw [List.map_cons]
    refine ⟨?_, fun ht => ?_, ?_⟩
    · simp only [PyData.bulkAll, segD, PyData.bulk, List.length_cons]
      omega
    · have a1 : (s.1.cps.toList.all fun c => decide (c < 16 ^ 8)) = true := by
        rw [List.all_eq_true]
        intro c hc
        have := kind_codes k1 c hc
        exact decide_eq_true (by omega)
      have a2 : (s.2.cps.toList.all fun c => decide (c < 16 ^ 8)) = true := by
        rw [List.all_eq_true]
        intro c hc
        have := ht c (k3 c hc)
        exact decide_eq_true (by omega)
      simp only [PyData.leavesShortAll, segD, PyData.leavesShort, a1, a2, h2 ht, Bool.and_true]
    · simp only [PyData.showableAll, segD, PyData.showable, h3, Bool.and_true]
theorem shows_segs {t : Str} (few : t.length ≤ 60) (ht : Codes t) {l : List Seg} (h : ∀ s ∈ l, Fine t s) (le : l.length ≤ 200) : Shows (.list (l.map segD)) := by
  obtain ⟨h1, h2, h3⟩ := bulk_segs few l h
  obtain ⟨h4, h5⟩ := lay_segs ht l h
  refine ⟨?_, ?_, ?_, ?_⟩
  · simp only [PyData.showable, h3]
  · exact PyData.hasDict_of_canLay _ (by simp only [PyData.canLay0, h4])
  · simp only [PyData.depth]
    omega
  · refine PyData.shown_fits_bulk (B := 13) (by decide) (by decide) ?_ ?_
    · simp only [PyData.leavesShort, h2 ht]
    · simp only [PyData.bulk]
      have e : (2 : Nat) ^ 20 = 1048576 := by decide
      omega
theorem Safe.codes {z : Str} (h : Safe z) : Codes z := fun c hc => by
  have := (Bool.and_eq_true_iff.mp (h c hc)).1
  have := of_decide_eq_true this
  omega
theorem codes_app {x y : Str} (a : Codes x) (b : Codes y) : Codes (x ++ y) := fun c hc => by
  rw [cd_app] at hc
  rcases List.mem_append.mp hc with h | h
  · exact a c h
  · exact b c h
/-- what the law puts in -/
def ins16 : List Str := ["<", ">", "[", "]", "@", "<@", "<<b>", "[[c]]", "<zzzzzz>", "<zzzzzzz>", "<B>", "[c1]", "<@C>", "[A]", "<@ c>", "<c-d>"]
theorem ins16_ok : ∀ z ∈ ins16, z.length ≤ 9 ∧ z.cps.toList.all safeB = true := by decide +kernel
theorem eqv_no {s : Seg} (h : s ≠ noText) : PyData.eqv (segD s) (.tuple [.str "text", .str ""]) = false := by
  obtain ⟨a, b⟩ := s
  simp only [segD, PyData.eqv, PyData.eqvAll, Bool.and_true]
  cases e1 : (a == ("text" : Str)) with
  | false => rfl
  | true =>
    cases e2 : (b == ("" : Str)) with
    | false => rfl
    | true =>
      refine absurd ?_ h
      rw [eq_of_beq e1, eq_of_beq e2, s0]
      rfl
theorem shaped_seg {t : Str} (ht : Codes t) {s : Seg} (h : Fine t s) : SeqAt.shaped (segD s) = true := by
  obtain ⟨k1, _, k3⟩ := h
  have c1 := (kind_codes k1).ok
  have c2 := Codes.ok (z := s.2) fun c hc => ht c (k3 c hc)
  unfold SeqAt.shaped
  simp only [segD, PyData.canLay0, PyData.canLayAll0, c1, c2, Bool.true_and, Bool.and_true, PyData.depth, PyData.depthAll]
  decide
def spLaw (K : PySem.W.Frag) : Sp := fun vs H Q _ => ∃ (a : Addr) (ns : List Int), vs = [.ref a] ∧ SqL K H a (ns.map V.int) ∧ ns.length ≤ 63 ∧ ∀ H', Q (.bl true) H'
section
variable {P : Program} {w : World} {K : PySem.W.Frag} {mg : Str → Option Value} {base : Heap} {f : Addr} {fd : FuncData}
theorem ok_law (F : Fun K "law" "law" s_law f fd) (z : Z mg) (claw_digits : Cal P w K mg base "_law_digits" 2 ["script", "first", "last"] (spDigits K))
    (claw_draw : Cal P w K mg base "_law_draw" 1 ["box", "many"] spDraw) (claw_name : Cal P w K mg base "_law_name" 2 ["box"] spName) (claw_text : Cal P w K mg base "_law_text" 3 ["box", "most"] spText)
    (claw_alike : CalG P w K mg base "_law_alike" 1 ["one", "two"] (spAlike K)) (claw_split : Cal P w K mg base "_law_split" 3 ["name", "text"] spSplitL)
    (csplit : Cal P w K mg base "split" 3 ["name", "text"] spSplit) (cjoin : Cal P w K mg base "join" 2 ["segments"] spJoin) :
    FnG P w K mg base 4 f fd ["script"] (spLaw K) := by
  refine FnG.mk' F sc_law (fun vs H Q E h => ?_) (fun cdv A outer s H vs Q gd hr h => ?_)
  · obtain ⟨a, ns, rfl, _⟩ := h
    rfl
  · obtain ⟨a, ns, rfl, hs, few, q⟩ := h
    refine ⟨_, (pss_cons (ps_set (i := 1) sc_law.nd rfl (Or.inl rfl) (pe_lst (pa_cons (pe_cal claw_digits (hr.mono (by decide)) (by rfl) (pa_cons (pv 0) (pa_cons pe_int (pa_cons pe_int pa_nil)))) (pa_cons pe_int pa_nil))))
      (pss_cons (ps_for PassesOwn.never rfl (pi_range1 (by rfl) z.range (pa_cons pe_int pa_nil)) (pg_name (i := 2) sc_law.nd rfl (Or.inl rfl))
        (pss_cons (ps_set (i := 3) sc_law.nd rfl (Or.inl rfl) (pe_cal claw_name (hr.mono (by decide)) (by rfl) (pa_cons (pv 1) pa_nil)))
        (pss_cons (ps_set (i := 4) sc_law.nd rfl (Or.inl rfl) (pe_cal claw_text (hr.mono (by decide)) (by rfl) (pa_cons (pv 1) (pa_cons pe_int pa_nil))))
        (C8.pss_cut (ps_if (pt_cmpR op_eq (pe_cal claw_draw (hr.mono (by decide)) (by rfl) (pa_cons (pv 1) (pa_cons pe_int pa_nil))) pe_int (nomark _))
          (pss_cons (ps_set (i := 5) sc_law.nd rfl (Or.inl rfl) (pe_cal claw_draw (hr.mono (by decide)) (by rfl) (pa_cons (pv 1) (pa_cons (pe_op op_add (pe_callB call_len_str (by rfl) z.len PySem.boot_len (pa_cons (pv 4) pa_nil)) pe_int) pa_nil))))
          (pss_cons (ps_set (i := 4) sc_law.nd rfl (Or.inl rfl) (pe_op op_add_str (pe_op op_add_str (pe_slice sl_str (pv 4) po_none (po_some (pv 5))) (pe_ix ix_list (pe_lst (pa_cons pe_str (pa_cons pe_str (pa_cons pe_str (pa_cons pe_str (pa_cons pe_str (pa_cons pe_str (pa_cons pe_str (pa_cons pe_str (pa_cons pe_str (pa_cons pe_str (pa_cons pe_str (pa_cons pe_str (pa_cons pe_str (pa_cons pe_str (pa_cons pe_str (pa_cons pe_str pa_nil))))))))))))))))) (pe_cal claw_draw (hr.mono (by decide)) (by rfl) (pa_cons (pv 1) (pa_cons pe_int pa_nil))) (fun _ _ => rfl))) (pe_slice sl_str (pv 4) (po_some (pv 5)) po_none)))
          (pss_one (ps_set (i := 4) sc_law.nd rfl (Or.inl rfl) (pe_slice sl_str (pv 4) po_none (po_some pe_int))))))
          pss_nil)
        (pss_cons (ps_set (i := 6) sc_law.nd rfl (Or.inl rfl) (pe_cal csplit (hr.mono (by decide)) (by rfl) (pa_cons (pv 3) (pa_cons (pv 4) pa_nil))))
        (C8.pss_cut (ps_if (PW.pt (pw_or (pt_not (pt_val (pe_calG claw_alike gd (hr.mono (by decide)) (by rfl) (pa_cons (pv 6) (pa_cons (pe_cal claw_split (hr.mono (by decide)) (by rfl) (pa_cons (pv 3) (pa_cons (pv 4) pa_nil))) pa_nil))))) (pw_or1 (pt_cmpR op_ne (pe_cal cjoin (hr.mono (by decide)) (by rfl) (pa_cons (pv 6) pa_nil)) (pv 4) (nomark _)))))
          (pss_one (ps_ret pe_bl))
          pss_nil)
        (pss_one (ps_for PassesOwn.never rfl (pi_range1 (by rfl) z.range (pa_cons (pe_callB call_len_seq (by rfl) z.len PySem.boot_len (pa_cons (pv 6) pa_nil)) pa_nil)) (pg_name (i := 7) sc_law.nd rfl (Or.inl rfl))
          (pss_one (ps_if (PW.pt (pw_or (pt_cmpR (op_eqD hr.units) (pe_ix ix_list (pv 6) (pv 7) (fun _ _ => rfl)) (pe_tup (pa_cons pe_str (pa_cons pe_str pa_nil))) (nomark _)) (pw_or1 (PW.pt (pw_and (pt_cmpR op_gt (pv 7) pe_int (nomark _)) (pw_and (pt_cmpR op_eq (pe_ix ix_tup (pe_ix ix_list (pv 6) (pv 7) (fun _ _ => rfl)) pe_int (fun _ _ => rfl)) pe_str (nomark _)) (pw_and1 (pt_cmpR op_eq (pe_ix ix_tup (pe_ix ix_list (pv 6) (pe_op op_sub (pv 7) pe_int) (fun _ _ => rfl)) pe_int (fun _ _ => rfl)) pe_str (nomark _)))))))))
            (pss_one (ps_ret pe_bl))
            pss_nil))))))))))
      (pss_one (ps_ret (pe_and (pe_calG claw_alike gd (hr.mono (by decide)) (by rfl) (pa_cons (pe_cal csplit (hr.mono (by decide)) (by rfl) (pa_cons pe_str (pa_cons pe_str pa_nil))) (pa_cons (pe_lst (pa_cons (pe_tup (pa_cons pe_str (pa_cons pe_str pa_nil))) (pa_cons (pe_tup (pa_cons pe_str (pa_cons pe_str pa_nil))) (pa_cons (pe_tup (pa_cons pe_str (pa_cons pe_str pa_nil))) (pa_cons (pe_tup (pa_cons pe_str (pa_cons pe_str pa_nil))) (pa_cons (pe_tup (pa_cons pe_str (pa_cons pe_str pa_nil))) pa_nil)))))) pa_nil))) (pe_one (pe_cmpR (op_eqD hr.units) (pe_cal csplit (hr.mono (by decide)) (by rfl) (pa_cons pe_str (pa_cons pe_str pa_nil))) (pe_lst pa_nil) (nomark _)))))))), ?_⟩
    -- the box
    refine ⟨.ref a, rfl, a, ns, 0, 63, rfl, hs, by decide, by decide, fun H1 p ds sm np hp fewd => ?_⟩
    refine ⟨by show 2 ≤ sizeLine; decide, fun b nb => ?_⟩
    have npb : p ≠ b := ne_of_none hp nb
    have box0 : Box (upd H1 b (.lst [.ref p, .int 0])) b := ⟨p, ds, 0, upd_same, by rw [upd_ne npb]; exact hp, npb, fewd⟩
    -- eight turns
    refine ⟨8, rfl, by decide, by decide, ?_⟩
    refine for_range (lo := 0) (n := 8) (fun i σ H3 => ∃ y2 y3 y4 y5 y6 y7 : Option V, σ = [some (.ref a), some (.ref b), y2, y3, y4, y5, y6, y7] ∧ Box H3 b)
      ⟨_, _, _, _, _, _, rfl, box0⟩ ?_ ?_
    · rintro i σ H3 hi ⟨y2, y3, y4, y5, y6, y7, rfl, hb⟩
      -- name, text
      refine ⟨.ref b, rfl, b, rfl, hb, fun nm H4 hn d4 => ?_⟩
      refine ⟨.ref b, rfl, b, 12, rfl, by decide, d4.box, fun t0 H5 few0 safe0 d5 => ?_⟩
      -- perhaps a disturbance
      refine ⟨fun σ' H' => ∃ (y5 : Option V) (t : Str), σ' = [some (.ref a), some (.ref b), some (.int (0 + (i : Nat))), some (.str nm), some (.str t), y5, y6, y7] ∧ t.length ≤ 60 ∧ Codes t ∧ Box H' b, ?_, ?_⟩
      · refine ⟨.ref b, rfl, b, 4, rfl, by decide, d5.box, fun r H6 r0 r1 d6 => ⟨rfl, _, rfl, ite2 (fun _ => ?_) (fun _ => ?_)⟩⟩
        · refine ⟨.ref b, rfl, _, rfl, t0, rfl, sizeLine_big (by omega), _, _, rfl, rfl, b, _, rfl, (by show (0 : Int) < (t0.length : Nat) + 1; omega), d6.box, fun at_ H7 a0 a1 d7 => ?_⟩
          obtain ⟨at_, rfl⟩ := Int.eq_ofNat_of_zero_le a0
          have a1 : ((at_ : Nat) : Int) < (t0.length : Nat) + 1 := a1
          have cs : cutS t0 none (some ((at_ : Nat) : Int)) = sub t0 0 at_ := cut_sub t0 0 at_
          have l1 : (sub t0 0 at_).length ≤ 60 := by rw [sub_len (by omega)]; omega
          have l2 : (sub t0 at_ t0.length).length ≤ 60 := by rw [sub_len (by omega)]; omega
          refine ⟨_, rfl, _, rfl, _, rfl, t0, rfl, sizeLine_big (by omega), by show 16 ≤ sizeLine; decide, fun p np => ?_⟩
          refine ⟨.ref b, rfl, b, 16, rfl, by decide, d7.box.same (same_new np), fun r16 H8 k0 k1 d8 => ?_⟩
          have hp8 : H8 p = some (.lst (ins16.map V.str)) := d8.keep p _ (d7.box.ne np) upd_same
          obtain ⟨v, hv, at_v⟩ := at_in (xs := ins16.map V.str) k0 k1
          obtain ⟨it, hit, rfl⟩ := List.mem_map.mp hv
          obtain ⟨il, isafe⟩ := ins16_ok it hit
          refine ⟨p, _, _, _, rfl, rfl, .inl (.inl hp8), at_v, _, _, rfl, rfl, (by rw [cs]; exact sizeLine_big (by omega)), ?_⟩
          have ce : cutS t0 (some ((at_ : Nat) : Int)) none = sub t0 at_ t0.length := cut_from t0 at_
          rw [cs]
          refine ⟨_, rfl, _, rfl, _, rfl, t0, rfl, sizeLine_big (by omega), ?_⟩
          rw [ce]
          have l3 : (sub t0 0 at_ ++ it).length ≤ 70 := by rw [len_app]; omega
          refine ⟨_, _, rfl, rfl, sizeLine_big (by omega), ?_⟩
          have ci : Codes ((sub t0 0 at_ ++ it) ++ sub t0 at_ t0.length) := codes_app (codes_app (safe0.codes.sub _ _) (safe_of isafe).codes) (safe0.codes.sub _ _)
          have l4 : ((sub t0 0 at_ ++ it) ++ sub t0 at_ t0.length).length ≤ 200 := by rw [len_app]; omega
          refine ⟨_, rfl, _, rfl, _, rfl, sizeLine_big (by omega), ?_⟩
          have cc := cut_to ((sub t0 0 at_ ++ it) ++ sub t0 at_ t0.length) 60
          refine ⟨_, _, rfl, ?_, ?_, d8.box⟩
          · rw [len_codes]
            have h := List.length_take_le 60 ((sub t0 0 at_ ++ it) ++ sub t0 at_ t0.length).cps.toList
            rw [← cc] at h
            exact h
          · intro c hc
            have hc' : c ∈ (cutS ((sub t0 0 at_ ++ it) ++ sub t0 at_ t0.length) none (some ((60 : Nat) : Int))).cps.toList := hc
            rw [cc] at hc'
            exact ci c (List.mem_of_mem_take hc')
        · exact ⟨_, t0, rfl, few0, safe0.codes, d6.box⟩
      · rintro σ H6 ⟨y5, t, rfl, few1, codes, hb6⟩
        -- the program's own segments
        refine ⟨_, rfl, _, rfl, nm, t, rfl, by omega, fun H7 S s7 nS sa7 => ?_⟩
        have fineS := segs_fine nameB (aft nm) t _ 0 0 rfl (Nat.le_refl _) (Nat.zero_le _)
        have fewS := segs_few nameB (aft nm) t t.length 0 0 rfl (Nat.zero_le _)
        have okS := okL_segs nameB (aft nm) t t.length 0 0 rfl (Nat.zero_le _)
        have glueS := glue_all nameB (aft nm) t
        generalize hl : segs nameB (aft nm) t 0 0 = l at *
        have sh := shows_segs few1 codes fineS (by omega)
        refine ⟨fun σ' H' => σ' = [some (.ref a), some (.ref b), some (.int (0 + (i : Nat))), some (.str nm), some (.str t), y5, some (.ref S), y7] ∧ SegsAt H' S l ∧ Box H' b, ?_, ?_⟩
        · refine ⟨.ref S, rfl, _, rfl, _, rfl, nm, t, rfl, by omega, codes, fun H8 S2 s8 nS2 sa8 => ?_⟩
          rw [hl] at sa8
          have saS := sa7.same s8
          refine ⟨_, _, _, _, rfl, saS.dp, sa8.dp, sh, sh, ?_⟩
          rw [decide_eq_true rfl]
          refine ⟨true, rfl, iteF ?_⟩
          refine ⟨.ref S, rfl, S, l, rfl, saS, by omega, fun x hx => ?_, fun H9 s9 => ?_⟩
          · obtain ⟨k1, k2, _⟩ := fineS x hx
            exact ⟨k1, by omega⟩
          · rw [glueS]
            refine ⟨_, rfl, rfl, _, rfl, ?_⟩
            rw [show (!decide (V.str t = V.str t)) = false by rw [decide_eq_true rfl]; rfl]
            exact iteF ⟨rfl, saS.same s9, ((hb6.same s7).same s8).same s9⟩
        · rintro σ H8 ⟨rfl, ⟨ts, hS, pr⟩, hb8⟩
          have lts := paired_len pr
          -- one by one
          refine ⟨.ref S, rfl, S, _, rfl, .inl (.inl (.inl hS)), _, rfl, by omega, by rw [List.length_map]; omega, ?_⟩
          refine for_range (lo := 0) (n := (((ts.map V.ref).length : Nat) : Int).toNat) (fun j σ H11 => ∃ y7 : Option V, σ = [some (.ref a), some (.ref b), some (.int (0 + (i : Nat))), some (.str nm), some (.str t), y5, some (.ref S), y7] ∧ Same H8 H11)
            ⟨_, rfl, Same.refl _⟩ ?_ ?_
          · rintro j σ H11 hj ⟨y7, rfl, s11⟩
            have hj' : j < l.length := by rw [Int.toNat_natCast, List.length_map] at hj; omega
            have hx : l[j]? = some l[j] := List.getElem?_eq_getElem hj'
            obtain ⟨u, hu, tu⟩ := paired_at pr hx
            have fx := fineS _ (List.getElem_mem hj')
            obtain ⟨nt, beside⟩ := okL_get okS hx
            have at_j : atI (ts.map V.ref) (0 + (j : Int)) = some (.ref u) := by
              rw [Int.zero_add]
              exact atI_nat (by rw [List.getElem?_map, hu]; rfl)
            refine ⟨.ref S, rfl, _, rfl, S, _, _, _, rfl, rfl, .inl (.inl (s11 _ _ hS)), at_j, by show 2 ≤ sizeLine; decide, fun v nv => ?_⟩
            have s12 := s11.trans (same_new (o := .tup [.str "text", .str ""]) nv)
            have tu12 := s12 _ _ tu
            refine ⟨segD l[j], .tuple [.str "text", .str ""], .tup (.inl (.inl tu12)) (.cons (.str _) (.cons (.str _) .nil)), .tup (.inl (.inl upd_same)) (.cons (.str _) (.cons (.str _) .nil)), shaped_seg codes fx, by decide +kernel, _, rfl, ?_⟩
            rw [eqv_no nt]
            refine iteF ?_
            refine ⟨_, rfl, _, _, rfl, rfl, _, rfl, ite2 (fun e => ?_) (fun e => ?_)⟩
            · obtain ⟨j', rfl⟩ : ∃ j', j = j' + 1 := ⟨j - 1, by have := of_decide_eq_true e; omega⟩
              refine ⟨.ref S, rfl, _, rfl, S, _, _, .ref u, rfl, rfl, .inl (.inl (s12 _ _ hS)), at_j, u, _, _, .str l[j' + 1].1, rfl, rfl, .inl (.inl tu12), atI_nat (j := 0) rfl, rfl, _, rfl, ?_⟩
              refine ite2 (fun e2 => ?_) (fun e2 => ?_)
              · have k1 : l[j' + 1].1 = "text" := V.str.inj (of_decide_eq_true e2)
                have hx0 : l[j']? = some l[j'] := List.getElem?_eq_getElem (by omega)
                obtain ⟨u0, hu0, tu0⟩ := paired_at pr hx0
                have at_0 : atI (ts.map V.ref) (0 + ((j' + 1 : Nat) : Int) - 1) = some (.ref u0) := by
                  rw [show (0 + ((j' + 1 : Nat) : Int) - 1) = ((j' : Nat) : Int) by omega]
                  exact atI_nat (by rw [List.getElem?_map, hu0]; rfl)
                refine ⟨.ref S, rfl, _, rfl, _, _, rfl, rfl, S, _, _, .ref u0, rfl, rfl, .inl (.inl (s12 _ _ hS)), at_0, u0, _, _, .str l[j'].1, rfl, rfl, .inl (.inl (s12 _ _ tu0)), atI_nat (j := 0) rfl, rfl, _, rfl, ?_⟩
                refine ite2 (fun e3 => ?_) (fun _ => ?_)
                · exact absurd ⟨k1, V.str.inj (of_decide_eq_true e3)⟩ (beside j' _ rfl hx0)
                · exact ⟨_, rfl, s12⟩
              · exact ⟨_, rfl, s12⟩
            · exact ⟨_, rfl, s12⟩
          · rintro σ H11 ⟨y7, rfl, s11⟩
            exact ⟨_, _, _, _, _, _, rfl, hb8.same s11⟩
    · rintro σ H3 ⟨y2, y3, y4, y5, y6, y7, rfl, hb⟩
      refine ⟨"b", text1, rfl, by decide +kernel, fun H4 S s4 nS sa4 => ?_⟩
      rw [segs_text1] at sa4
      refine ⟨by show 2 ≤ sizeLine; decide, fun u1 n1 => ?_⟩
      refine ⟨by show 2 ≤ sizeLine; decide, fun u2 n2 => ?_⟩
      refine ⟨by show 2 ≤ sizeLine; decide, fun u3 n3 => ?_⟩
      refine ⟨by show 2 ≤ sizeLine; decide, fun u4 n4 => ?_⟩
      refine ⟨by show 2 ≤ sizeLine; decide, fun u5 n5 => ?_⟩
      refine ⟨by show 5 ≤ sizeLine; decide, fun L nL => ?_⟩
      have fine1 : ∀ s ∈ found1, Fine text1 s := by rw [← segs_text1]; exact segs_fine nameB (aft "b") text1 _ 0 0 rfl (Nat.le_refl _) (Nat.zero_le _)
      have sh1 : Shows (.list (found1.map segD)) := shows_segs (t := text1) (by decide +kernel) (Safe.codes (safe_of (by decide +kernel))) fine1 (by decide)
      have keep : ∀ {o : HO}, SegsAt (upd (upd (upd (upd (upd (upd H4 u1 (.tup [.str "text", .str "x"])) u2 (.tup [.str "include", .str "c"])) u3 (.tup [.str "indirect", .str "d"])) u4 (.tup [.str "text", .str "y<a>"])) u5 (.tup [.str "link", .str "b"])) L o) S found1 :=
        fun {o} => (((((sa4.same (same_new n1)).same (same_new n2)).same (same_new n3)).same (same_new n4)).same (same_new n5)).same (same_new nL)
      refine ⟨_, _, .list (found1.map segD), .list (found1.map segD), rfl, keep.dp, SegsAt.dp ⟨[u1, u2, u3, u4, u5], upd_same, ?_⟩, sh1, sh1, ?_⟩
      · exact .cons (same_new nL _ _ (same_new n5 _ _ (same_new n4 _ _ (same_new n3 _ _ (same_new n2 _ _ upd_same))))) (.cons (same_new nL _ _ (same_new n5 _ _ (same_new n4 _ _ (same_new n3 _ _ upd_same))))
          (.cons (same_new nL _ _ (same_new n5 _ _ (same_new n4 _ _ upd_same))) (.cons (same_new nL _ _ (same_new n5 _ _ upd_same)) (.cons (same_new nL _ _ upd_same) .nil))))
      · rw [decide_eq_true rfl]
        refine ⟨true, rfl, iteT ?_⟩
        refine ⟨"a", "", rfl, by decide +kernel, fun H5 S2 s5 nS2 sa5 => ?_⟩
        rw [segs_empty] at sa5
        refine ⟨Nat.zero_le _, fun E nE => ?_⟩
        refine ⟨.list (([] : List Seg).map segD), .list [], (sa5.same (same_new nE)).dp, .lst (.inl (.inl upd_same)) .nil, by decide +kernel, by decide +kernel, ?_⟩
        rw [eqv_nil]
        exact q _
end
end K02

namespace K02
open PySem PySem.Spec PyProof.Rows L2 Pg
/-! what the top has written -/
theorem all_mk {l : PySem.W.OpenLaw} {w : World} {K : PySem.W.Frag} {h : Heap} {mg : Str → Option Value} {fa f0 f1 f2 f3 f4 f5 f6 f7 f8 f9 f10 f11 f12 f13 f14 f15 f16  : Addr} (X : K.In h) (G : h.Ns mainGlobals mg) (hfa : mg "law" = some (.ref fa))
    {od0 an0 od1 an1 od2 an2 od3 an3 od4 an4 od5 an5 od6 an6 od7 an7 od8 an8 od9 an9 od10 an10 od11 an11 od12 an12 od13 an13 od14 an14 od15 an15 od16 an16 : Option Addr} {sl0 sl1 sl2 sl3 sl4 sl5 sl6 sl7 sl8 sl9 sl10 sl11 sl12 sl13 sl14 sl15 sl16 : Array (Option Value)} {oc0 kV0 dc0 pm0 cd0 ct0 oc1 kV1 dc1 pm1 cd1 ct1 oc2 kV2 dc2 pm2 cd2 ct2 oc3 kV3 dc3 pm3 cd3 ct3 oc4 kV4 dc4 pm4 cd4 ct4 oc5 kV5 dc5 pm5 cd5 ct5 oc6 kV6 dc6 pm6 cd6 ct6 oc7 kV7 dc7 pm7 cd7 ct7 oc8 kV8 dc8 pm8 cd8 ct8 oc9 kV9 dc9 pm9 cd9 ct9 oc10 kV10 dc10 pm10 cd10 ct10 oc11 kV11 dc11 pm11 cd11 ct11 oc12 kV12 dc12 pm12 cd12 ct12 oc13 kV13 dc13 pm13 cd13 ct13 oc14 kV14 dc14 pm14 cd14 ct14 oc15 kV15 dc15 pm15 cd15 ct15 oc16 kV16 dc16 pm16 cd16 ct16 : Value} {t0 : Tok}
    {es : Array DictEntry} {en : Nat} {sg p0 p1 p2 : Addr} {i0 i1 i2 : Array Value} {m0 m1 m2 : Nat} {dd0 dd1 dd2 : Option Addr} {ls0 ls1 ls2 : Array (Option Value)}
    (a0 : PySem.W.nsIn K mainGlobals "_law_cell" = some (some (.ref f0))) (l0 : K.lookup f0 = some ⟨oc0, od0, .func (PySem.W.fnOf "_law_cell" "_law_cell" (defArgs s_law_cell) (defBody s_law_cell) (defScope s_law_cell) .none kV0 dc0 pm0 an0 cd0 ct0), sl0⟩)
      (c0 : PySem.W.codeIn K cd0 "_law_cell" = true) (k0 : PySem.W.keepIn K (.ref f0) = true)
    (a1 : PySem.W.nsIn K mainGlobals "_law_digits" = some (some (.ref f1))) (l1 : K.lookup f1 = some ⟨oc1, od1, .func (PySem.W.fnOf "_law_digits" "_law_digits" (defArgs s_law_digits) (defBody s_law_digits) (defScope s_law_digits) .none kV1 dc1 pm1 an1 cd1 ct1), sl1⟩)
      (c1 : PySem.W.codeIn K cd1 "_law_digits" = true) (k1 : PySem.W.keepIn K (.ref f1) = true)
    (a2 : PySem.W.nsIn K mainGlobals "_law_is_name" = some (some (.ref f2))) (l2 : K.lookup f2 = some ⟨oc2, od2, .func (PySem.W.fnOf "_law_is_name" "_law_is_name" (defArgs s_law_is_name) (defBody s_law_is_name) (defScope s_law_is_name) .none kV2 dc2 pm2 an2 cd2 ct2), sl2⟩)
      (c2 : PySem.W.codeIn K cd2 "_law_is_name" = true) (k2 : PySem.W.keepIn K (.ref f2) = true)
    (a3 : PySem.W.nsIn K mainGlobals "_law_draw" = some (some (.ref f3))) (l3 : K.lookup f3 = some ⟨oc3, od3, .func (PySem.W.fnOf "_law_draw" "_law_draw" (defArgs s_law_draw) (defBody s_law_draw) (defScope s_law_draw) .none kV3 dc3 pm3 an3 cd3 ct3), sl3⟩)
      (c3 : PySem.W.codeIn K cd3 "_law_draw" = true) (k3 : PySem.W.keepIn K (.ref f3) = true)
    (a4 : PySem.W.nsIn K mainGlobals "_law_name" = some (some (.ref f4))) (l4 : K.lookup f4 = some ⟨oc4, od4, .func (PySem.W.fnOf "_law_name" "_law_name" (defArgs s_law_name) (defBody s_law_name) (defScope s_law_name) .none kV4 dc4 pm4 an4 cd4 ct4), sl4⟩)
      (c4 : PySem.W.codeIn K cd4 "_law_name" = true) (k4 : PySem.W.keepIn K (.ref f4) = true)
    (a5 : PySem.W.nsIn K mainGlobals "_law_text" = some (some (.ref f5))) (l5 : K.lookup f5 = some ⟨oc5, od5, .func (PySem.W.fnOf "_law_text" "_law_text" (defArgs s_law_text) (defBody s_law_text) (defScope s_law_text) .none kV5 dc5 pm5 an5 cd5 ct5), sl5⟩)
      (c5 : PySem.W.codeIn K cd5 "_law_text" = true) (k5 : PySem.W.keepIn K (.ref f5) = true)
    (a6 : PySem.W.nsIn K mainGlobals "_law_alike" = some (some (.ref f6))) (l6 : K.lookup f6 = some ⟨oc6, od6, .func (PySem.W.fnOf "_law_alike" "_law_alike" (defArgs s_law_alike) (defBody s_law_alike) (defScope s_law_alike) .none kV6 dc6 pm6 an6 cd6 ct6), sl6⟩)
      (c6 : PySem.W.codeIn K cd6 "_law_alike" = true) (k6 : PySem.W.keepIn K (.ref f6) = true)
    (a7 : PySem.W.nsIn K mainGlobals "_law_bracket" = some (some (.ref f7))) (l7 : K.lookup f7 = some ⟨oc7, od7, .func (PySem.W.fnOf "_law_bracket" "_law_bracket" (defArgs s_law_bracket) (defBody s_law_bracket) (defScope s_law_bracket) .none kV7 dc7 pm7 an7 cd7 ct7), sl7⟩)
      (c7 : PySem.W.codeIn K cd7 "_law_bracket" = true) (k7 : PySem.W.keepIn K (.ref f7) = true)
    (a8 : PySem.W.nsIn K mainGlobals "_law_split" = some (some (.ref f8))) (l8 : K.lookup f8 = some ⟨oc8, od8, .func (PySem.W.fnOf "_law_split" "_law_split" (defArgs s_law_split) (defBody s_law_split) (defScope s_law_split) .none kV8 dc8 pm8 an8 cd8 ct8), sl8⟩)
      (c8 : PySem.W.codeIn K cd8 "_law_split" = true) (k8 : PySem.W.keepIn K (.ref f8) = true)
    (a9 : PySem.W.nsIn K mainGlobals "is_name" = some (some (.ref f9))) (l9 : K.lookup f9 = some ⟨oc9, od9, .func (PySem.W.fnOf "is_name" "is_name" (defArgs s_is_name) (defBody s_is_name) (defScope s_is_name) .none kV9 dc9 pm9 an9 cd9 ct9), sl9⟩)
      (c9 : PySem.W.codeIn K cd9 "is_name" = true) (k9 : PySem.W.keepIn K (.ref f9) = true)
    (a10 : PySem.W.nsIn K mainGlobals "is_after" = some (some (.ref f10))) (l10 : K.lookup f10 = some ⟨oc10, od10, .func (PySem.W.fnOf "is_after" "is_after" (defArgs s_is_after) (defBody s_is_after) (defScope s_is_after) .none kV10 dc10 pm10 an10 cd10 ct10), sl10⟩)
      (c10 : PySem.W.codeIn K cd10 "is_after" = true) (k10 : PySem.W.keepIn K (.ref f10) = true)
    (a11 : PySem.W.nsIn K mainGlobals "_plain" = some (some (.ref f11))) (l11 : K.lookup f11 = some ⟨oc11, od11, .func (PySem.W.fnOf "_plain" "_plain" (defArgs s_plain) (defBody s_plain) (defScope s_plain) .none kV11 dc11 pm11 an11 cd11 ct11), sl11⟩)
      (c11 : PySem.W.codeIn K cd11 "_plain" = true) (k11 : PySem.W.keepIn K (.ref f11) = true)
    (a12 : PySem.W.nsIn K mainGlobals "_text_of" = some (some (.ref f12))) (l12 : K.lookup f12 = some ⟨oc12, od12, .func (PySem.W.fnOf "_text_of" "_text_of" (defArgs s_text_of) (defBody s_text_of) (defScope s_text_of) .none kV12 dc12 pm12 an12 cd12 ct12), sl12⟩)
      (c12 : PySem.W.codeIn K cd12 "_text_of" = true) (k12 : PySem.W.keepIn K (.ref f12) = true)
    (a13 : PySem.W.nsIn K mainGlobals "_segment_at" = some (some (.ref f13))) (l13 : K.lookup f13 = some ⟨oc13, od13, .func (PySem.W.fnOf "_segment_at" "_segment_at" (defArgs s_segment_at) (defBody s_segment_at) (defScope s_segment_at) .none kV13 dc13 pm13 an13 cd13 ct13), sl13⟩)
      (c13 : PySem.W.codeIn K cd13 "_segment_at" = true) (k13 : PySem.W.keepIn K (.ref f13) = true)
    (a14 : PySem.W.nsIn K mainGlobals "split" = some (some (.ref f14))) (l14 : K.lookup f14 = some ⟨oc14, od14, .func (PySem.W.fnOf "split" "split" (defArgs s_split) (defBody s_split) (defScope s_split) .none kV14 dc14 pm14 an14 cd14 ct14), sl14⟩)
      (c14 : PySem.W.codeIn K cd14 "split" = true) (k14 : PySem.W.keepIn K (.ref f14) = true)
    (a15 : PySem.W.nsIn K mainGlobals "join" = some (some (.ref f15))) (l15 : K.lookup f15 = some ⟨oc15, od15, .func (PySem.W.fnOf "join" "join" (defArgs s_join) (defBody s_join) (defScope s_join) .none kV15 dc15 pm15 an15 cd15 ct15), sl15⟩)
      (c15 : PySem.W.codeIn K cd15 "join" = true) (k15 : PySem.W.keepIn K (.ref f15) = true)
    (a16 : PySem.W.nsIn K mainGlobals "law" = some (some (.ref f16))) (l16 : K.lookup f16 = some ⟨oc16, od16, .func (PySem.W.fnOf "law" "law" (defArgs s_law) (defBody s_law) (defScope s_law) .none kV16 dc16 pm16 an16 cd16 ct16), sl16⟩)
      (c16 : PySem.W.codeIn K cd16 "law" = true) (k16 : PySem.W.keepIn K (.ref f16) = true)
    (z0 : PySem.W.nsIn K mainGlobals "len" = some none)
    (z1 : PySem.W.nsIn K mainGlobals "range" = some none)
    (z2 : PySem.W.nsIn K mainGlobals "int" = some none)
    (z3 : PySem.W.nsIn K mainGlobals "repr" = some none)
    (z4 : PySem.W.nsIn K mainGlobals "max" = some none)
    (z5 : PySem.W.nsIn K mainGlobals "all" = some none)
    (n0 : PySem.W.nsIn K mainGlobals "NAME_MOST" = some (some (.int 6 t0)))
    (xg0 : PySem.W.nsIn K mainGlobals "_SIGNS" = some (some (.ref sg)))
    (xg1 : K.lookup sg = some ⟨.type "dict", none, .dict es en, #[]⟩)
    (xg2 : (sg == sysModules) = false)
    (xg3 : PySem.W.KeysLit w.params es.toList)
    (xg4 : PySem.W.nsIn K sg "include" = some (some (.ref p0)))
    (xg5 : PySem.W.nsIn K sg "indirect" = some (some (.ref p1)))
    (xg6 : PySem.W.nsIn K sg "link" = some (some (.ref p2)))
    (xg7 : Pg.Entries es [(.str "include", .ref p0), (.str "indirect", .ref p1), (.str "link", .ref p2)])
    (xg8 : K.lookup p0 = some ⟨.type "tuple", dd0, .seq i0 m0, ls0⟩)
    (xg9 : L2.Vals [.str "<", .str ">"] i0.toList)
    (xga : K.lookup p1 = some ⟨.type "tuple", dd1, .seq i1 m1, ls1⟩)
    (xgb : L2.Vals [.str "<@", .str ">"] i1.toList)
    (xgc : K.lookup p2 = some ⟨.type "tuple", dd2, .seq i2 m2, ls2⟩)
    (xgd : L2.Vals [.str "[", .str "]"] i2.toList) :
    ∃ fd : FuncData, (∀ (s : Shared) (v : Value), BindsTo s fd ⟨[v], []⟩ [("script", v)]) ∧ ∀ base : Heap, K.In base → base.Ns mainGlobals mg → FnG l.prog w K mg base 4 fa fd ["script"] (spLaw K) := by
  obtain rfl : fa = f16 := by
    have e := hfa.symm.trans (PySem.W.mg_of X G a16)
    cases e
    rfl
  have z : Z mg := ⟨PySem.W.mg_none_of X G z0, PySem.W.mg_none_of X G z1, PySem.W.mg_none_of X G z2, PySem.W.mg_none_of X G z3, PySem.W.mg_none_of X G z4, PySem.W.mg_none_of X G z5, ⟨_, PySem.W.mg_of X G n0⟩⟩
  have two : ∀ {xs : List V} {i : Array Value}, xs.length = 2 → Vals xs i.toList → i.size ≤ sizeLine := fun h v => by
    have := v.length
    rw [h, Array.length_toList] at this
    rw [← this]
    decide
  have gs : Signs w K mg sg := ⟨PySem.W.mg_of X G xg0, xg2, es, en, p0, p1, p2, xg1, xg3, xg7, ⟨_, _, _, xg8, rfl, rfl, two rfl xg9, xg9⟩, ⟨_, _, _, xga, rfl, rfl, two rfl xgb, xgb⟩, ⟨_, _, _, xgc, rfl, rfl, two rfl xgd, xgd⟩, xg4, xg5, xg6⟩
  have F0 := fun_mk (st := s_law_cell) l0 c0 k0
  have b0 := F0.binds (ps := ["script", "k"]) fun _ _ _ _ _ _ us hl => match us, hl with | [_, _], _ => rfl
  have F1 := fun_mk (st := s_law_digits) l1 c1 k1
  have b1 := F1.binds (ps := ["script", "first", "last"]) fun _ _ _ _ _ _ us hl => match us, hl with | [_, _, _], _ => rfl
  have F2 := fun_mk (st := s_law_is_name) l2 c2 k2
  have b2 := F2.binds (ps := ["text"]) fun _ _ _ _ _ _ us hl => match us, hl with | [_], _ => rfl
  have F3 := fun_mk (st := s_law_draw) l3 c3 k3
  have b3 := F3.binds (ps := ["box", "many"]) fun _ _ _ _ _ _ us hl => match us, hl with | [_, _], _ => rfl
  have F4 := fun_mk (st := s_law_name) l4 c4 k4
  have b4 := F4.binds (ps := ["box"]) fun _ _ _ _ _ _ us hl => match us, hl with | [_], _ => rfl
  have F5 := fun_mk (st := s_law_text) l5 c5 k5
  have b5 := F5.binds (ps := ["box", "most"]) fun _ _ _ _ _ _ us hl => match us, hl with | [_, _], _ => rfl
  have F6 := fun_mk (st := s_law_alike) l6 c6 k6
  have b6 := F6.binds (ps := ["one", "two"]) fun _ _ _ _ _ _ us hl => match us, hl with | [_, _], _ => rfl
  have F7 := fun_mk (st := s_law_bracket) l7 c7 k7
  have b7 := F7.binds (ps := ["name", "text", "at"]) fun _ _ _ _ _ _ us hl => match us, hl with | [_, _, _], _ => rfl
  have F8 := fun_mk (st := s_law_split) l8 c8 k8
  have b8 := F8.binds (ps := ["name", "text"]) fun _ _ _ _ _ _ us hl => match us, hl with | [_, _], _ => rfl
  have F9 := fun_mk (st := s_is_name) l9 c9 k9
  have b9 := F9.binds (ps := ["text"]) fun _ _ _ _ _ _ us hl => match us, hl with | [_], _ => rfl
  have F10 := fun_mk (st := s_is_after) l10 c10 k10
  have b10 := F10.binds (ps := ["one", "other"]) fun _ _ _ _ _ _ us hl => match us, hl with | [_, _], _ => rfl
  have F11 := fun_mk (st := s_plain) l11 c11 k11
  have b11 := F11.binds (ps := ["characters"]) fun _ _ _ _ _ _ us hl => match us, hl with | [_], _ => rfl
  have F12 := fun_mk (st := s_text_of) l12 c12 k12
  have b12 := F12.binds (ps := ["segment"]) fun _ _ _ _ _ _ us hl => match us, hl with | [_], _ => rfl
  have F13 := fun_mk (st := s_segment_at) l13 c13 k13
  have b13 := F13.binds (ps := ["name", "text", "at"]) fun _ _ _ _ _ _ us hl => match us, hl with | [_, _, _], _ => rfl
  have F14 := fun_mk (st := s_split) l14 c14 k14
  have b14 := F14.binds (ps := ["name", "text"]) fun _ _ _ _ _ _ us hl => match us, hl with | [_, _], _ => rfl
  have F15 := fun_mk (st := s_join) l15 c15 k15
  have b15 := F15.binds (ps := ["segments"]) fun _ _ _ _ _ _ us hl => match us, hl with | [_], _ => rfl
  have F16 := fun_mk (st := s_law) l16 c16 k16
  refine ⟨PySem.W.fnOf "law" "law" (defArgs s_law) (defBody s_law) (defScope s_law) .none kV16 dc16 pm16 an16 cd16 ct16, fun s v => .of_eq rfl, fun base _ _ => ?_⟩
  have C_law_cell : Cal l.prog w K mg base "_law_cell" 1 ["script", "k"] (spCell K) := ⟨f0, _, ok_law_cell F0 z , b0, PySem.W.mg_of X G a0, k0⟩
  have C_law_digits : Cal l.prog w K mg base "_law_digits" 2 ["script", "first", "last"] (spDigits K) := ⟨f1, _, ok_law_digits F1 z C_law_cell, b1, PySem.W.mg_of X G a1, k1⟩
  have C_law_is_name : Cal l.prog w K mg base "_law_is_name" 1 ["text"] spIsName := ⟨f2, _, ok_law_is_name F2 z , b2, PySem.W.mg_of X G a2, k2⟩
  have C_law_draw : Cal l.prog w K mg base "_law_draw" 1 ["box", "many"] spDraw := ⟨f3, _, ok_law_draw F3 z , b3, PySem.W.mg_of X G a3, k3⟩
  have C_law_name : Cal l.prog w K mg base "_law_name" 2 ["box"] spName := ⟨f4, _, ok_law_name F4 z C_law_draw, b4, PySem.W.mg_of X G a4, k4⟩
  have C_law_text : Cal l.prog w K mg base "_law_text" 3 ["box", "most"] spText := ⟨f5, _, ok_law_text F5 z C_law_draw C_law_name, b5, PySem.W.mg_of X G a5, k5⟩
  have C_law_alike : CalG l.prog w K mg base "_law_alike" 1 ["one", "two"] (spAlike K) := ⟨f6, _, ok_law_alike F6 z , b6, PySem.W.mg_of X G a6, k6⟩
  have C_law_bracket : Cal l.prog w K mg base "_law_bracket" 2 ["name", "text", "at"] spBracket := ⟨f7, _, ok_law_bracket F7 z C_law_is_name, b7, PySem.W.mg_of X G a7, k7⟩
  have C_law_split : Cal l.prog w K mg base "_law_split" 3 ["name", "text"] spSplitL := ⟨f8, _, ok_law_split F8 z C_law_bracket, b8, PySem.W.mg_of X G a8, k8⟩
  have C_is_name : Cal l.prog w K mg base "is_name" 1 ["text"] spIsNameP := ⟨f9, _, ok_is_name F9 z , b9, PySem.W.mg_of X G a9, k9⟩
  have C_is_after : Cal l.prog w K mg base "is_after" 1 ["one", "other"] spAfter := ⟨f10, _, ok_is_after F10 z , b10, PySem.W.mg_of X G a10, k10⟩
  have C_plain : Cal l.prog w K mg base "_plain" 1 ["characters"] spPlain := ⟨f11, _, ok_plain F11 z , b11, PySem.W.mg_of X G a11, k11⟩
  have C_text_of : Cal l.prog w K mg base "_text_of" 1 ["segment"] (spTextOf K) := ⟨f12, _, ok_text_of F12 z gs, b12, PySem.W.mg_of X G a12, k12⟩
  have C_segment_at : Cal l.prog w K mg base "_segment_at" 2 ["name", "text", "at"] spSegAt := ⟨f13, _, ok_segment_at F13 z gs C_is_name C_is_after, b13, PySem.W.mg_of X G a13, k13⟩
  have C_split : Cal l.prog w K mg base "split" 3 ["name", "text"] spSplit := ⟨f14, _, ok_split F14 z C_plain C_text_of C_segment_at, b14, PySem.W.mg_of X G a14, k14⟩
  have C_join : Cal l.prog w K mg base "join" 2 ["segments"] spJoin := ⟨f15, _, ok_join F15 z C_text_of, b15, PySem.W.mg_of X G a15, k15⟩
  exact ok_law F16 z C_law_digits C_law_draw C_law_name C_law_text C_law_alike C_law_split C_split C_join
end K02
open PySem PySem.W PyProof.Rows
set_option maxRecDepth 100000 in
set_option maxHeartbeats 0 in
theorem PySem.Challenge.cw_pagesatonce_k02_segments_of_texts_holds : PySem.Challenge.rw_pagesatonce_k02_segments_of_texts.Holds := by
  w_on; o_law; k_head; (case hw => w_witness2)
  k_fill
  refine Pg.walkG (l := PySem.Challenge.rw_pagesatonce_k02_segments_of_texts) (n := 63) (k := 4) (x := "script") (sp := K02.spLaw) rfl (by decide) rfl ⟨rfl, by decide, by decide⟩ (fun w h Y => PySem.W.kIn_of Y) ?F (fun K H a ns hl hS => ⟨a, ns, rfl, hS, hl, fun _ => rfl⟩)
  case F =>
    intro w mg fa h KX G hmg
    refine' K02.all_mk KX G hmg ?a0 ?l0 ?c0 ?k0 ?a1 ?l1 ?c1 ?k1 ?a2 ?l2 ?c2 ?k2 ?a3 ?l3 ?c3 ?k3 ?a4 ?l4 ?c4 ?k4 ?a5 ?l5 ?c5 ?k5 ?a6 ?l6 ?c6 ?k6 ?a7 ?l7 ?c7 ?k7 ?a8 ?l8 ?c8 ?k8 ?a9 ?l9 ?c9 ?k9 ?a10 ?l10 ?c10 ?k10 ?a11 ?l11 ?c11 ?k11 ?a12 ?l12 ?c12 ?k12 ?a13 ?l13 ?c13 ?k13 ?a14 ?l14 ?c14 ?k14 ?a15 ?l15 ?c15 ?k15 ?a16 ?l16 ?c16 ?k16 ?z0 ?z1 ?z2 ?z3 ?z4 ?z5 ?n0 ?xg0 ?xg1 ?xg2 ?xg3 ?xg4 ?xg5 ?xg6 ?xg7 ?xg8 ?xg9 ?xga ?xgb ?xgc ?xgd
    (case a0 => k_is); (case l0 => k_is); (case c0 => k_is); (case k0 => k_is); (case a1 => k_is); (case l1 => k_is)
    (case c1 => k_is); (case k1 => k_is); (case a2 => k_is); (case l2 => k_is); (case c2 => k_is); (case k2 => k_is)
    (case a3 => k_is); (case l3 => k_is); (case c3 => k_is); (case k3 => k_is); (case a4 => k_is); (case l4 => k_is)
    (case c4 => k_is); (case k4 => k_is); (case a5 => k_is); (case l5 => k_is); (case c5 => k_is); (case k5 => k_is)
    (case a6 => k_is); (case l6 => k_is); (case c6 => k_is); (case k6 => k_is); (case a7 => k_is); (case l7 => k_is)
    (case c7 => k_is); (case k7 => k_is); (case a8 => k_is); (case l8 => k_is); (case c8 => k_is); (case k8 => k_is)
    (case a9 => k_is); (case l9 => k_is); (case c9 => k_is); (case k9 => k_is); (case a10 => k_is); (case l10 => k_is)
    (case c10 => k_is); (case k10 => k_is); (case a11 => k_is); (case l11 => k_is); (case c11 => k_is); (case k11 => k_is)
    (case a12 => k_is); (case l12 => k_is); (case c12 => k_is); (case k12 => k_is); (case a13 => k_is); (case l13 => k_is)
    (case c13 => k_is); (case k13 => k_is); (case a14 => k_is); (case l14 => k_is); (case c14 => k_is); (case k14 => k_is)
    (case a15 => k_is); (case l15 => k_is); (case c15 => k_is); (case k15 => k_is); (case a16 => k_is); (case l16 => k_is)
    (case c16 => k_is); (case k16 => k_is); (case z0 => k_is); (case z1 => k_is); (case z2 => k_is); (case z3 => k_is)
    (case z4 => k_is); (case z5 => k_is); (case n0 => k_is)
    (case xg0 => k_is)
    (case xg1 => k_is)
    (case xg2 => rfl)
    (case xg3 => exact ⟨⟨_, _, rfl, rfl⟩, ⟨_, _, rfl, rfl⟩, ⟨_, _, rfl, rfl⟩, trivial⟩)
    (case xg4 => k_is)
    (case xg5 => k_is)
    (case xg6 => k_is)
    (case xg7 => exact Pg.entries3 ⟨_, rfl⟩ rfl ⟨_, rfl⟩ rfl ⟨_, rfl⟩ rfl)
    (case xg8 => k_is)
    (case xg9 => exact .cons ⟨_, rfl⟩ (.cons ⟨_, rfl⟩ .nil))
    (case xga => k_is)
    (case xgb => exact .cons ⟨_, rfl⟩ (.cons ⟨_, rfl⟩ .nil))
    (case xgc => k_is)
    (case xgd => exact .cons ⟨_, rfl⟩ (.cons ⟨_, rfl⟩ .nil))

