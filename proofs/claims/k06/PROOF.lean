import PyProof.Rows.All
import Wide.All
import OpenK.AllK
import Wide.FinOn
import PyProof.ReprRoads
import HandS.ForMost
import HandS.Strs
import HandS.StrMore
import HandS.TupAny
import HandS.RaiseMore
import HandS.Codes
import HandS.SetFor
import KE.KDictWalk
import PyProof.Rows.SortShellAny
import HandS.Style
import HandS.DictComp
import PyProof.Rows.ReprShort
import PyProof.ReprBulk
import PySem.Challenge.RW_pagesatonce_k06_cache_of_renderings
set_option Elab.async false
set_option linter.all false
set_option maxRecDepth 100000
set_option maxHeartbeats 4000000
/-! Promises of defs that are called while no repr is under way (for repr of lists and tuples). -/
namespace Pg
open PySem PySem.Spec PyProof.Rows L2

section
variable {P : Program} {w : World} {K : PySem.W.Frag} {mg : Str → Option Value} {base : Heap}

/-- the promise of a def that is only called where no repr runs -/
structure FnG (P : Program) (w : World) (K : PySem.W.Frag) (mg : Str → Option Value) (base : Heap) (k : Nat) (f : Addr) (fd : FuncData) (ps : List Str) (sp : Sp) : Prop where
  few : ∀ vs H Q E, sp vs H Q E → vs.length = ps.length
  go : ∀ (A : Around) (fr : List Env) (s : Shared) (H : Hp) (gs : Args) (us : List Value) (vs : List V) (Q : VK), A.guards = some [] → Room k A → Env0 P w K mg base A fr s H →
    BindsTo s fd gs (ps.zip us) → Vals vs us → sp vs H Q E0 → codeAny (model P w) A (.call (.ref f) gs) (CR CX0 fr P w H s Q E0) s

/-- an ordinary promise serves there too -/
theorem FnG.of {k : Nat} {f : Addr} {fd : FuncData} {ps : List Str} {sp : Sp} (F : FnOk P w K mg base CX0 k f fd ps sp) : FnG P w K mg base k f fd ps sp :=
  ⟨F.len, fun A fr s H gs us vs Q _ hr e b r h => F.run A fr s H gs us vs Q E0 hr e b r h⟩

theorem FnG.mk' {x qual : Str} {st : Stmt} {f : Addr} {fd : FuncData} {N ps : List Str} {k : Nat} {sp : Sp} (D : Fun K x qual st f fd) (S : FnScope N ps (defScope st)) (few : ∀ vs H Q E, sp vs H Q E → vs.length = ps.length)
    (body : ∀ (cd : Value) (A : Around) (fr : List Env) (s : Shared) (H : Hp) (vs : List V) (Q : VK), A.guards = some [] → Room k (A.deeper (envOfC qual (defScope st) s.heap.objs.size f cd)) → sp vs H Q E0 →
      ∃ t, PSs (cxOf CX0 P w K mg base N qual (defScope st) f cd A fr s H E0).nox (defBody st) t ∧ t { nx := fun _ H' => Q .non H', rt := Q } (start N vs) H) : FnG P w K mg base (k + 1) f fd ps sp := by
  obtain ⟨_, _, _, _, _, _, cd, _, _, rfl, at_f, rec_ok⟩ := D.ex
  constructor
  · exact few
  intro A fr s H gs us vs Q hg hr e b r h
  have inK : K.In s.heap := e.mod.kin.keeps (fun c o q => (e.bs c o q).left)
  have nl : s.heap.NoLimit := e.mod.nolimit.keeps (fun c o q => (e.bs c o q).left)
  have kinds : ∀ y ∈ ps.zip us, (defScope st).names.lookup y.1 = some .local ∨
      ((defScope st).names.lookup y.1 = some .cell ∧ ((cellsFrom (s.heap.objs.size + 1) (defScope st).names []).lookup y.1).isSome = true) := by
    intro y hy
    obtain ⟨y1, y2⟩ := y
    cases S.par y1 (List.of_mem_zip hy).left with
    | inl q => left; exact q
    | inr q => right; exact ⟨q, PySem.W.cellsFrom_some _ _ _ (Or.inl q)⟩
  apply codeAny_call_function hr.depth (inK _ _ at_f) rfl S.co S.gen rfl (PySem.W.codeRec_of inK rec_ok)
  apply b
  apply wpAny_newFunctionEnv_cells S.kind kinds
  intro env he s1 x
  subst he
  refine And.intro (nl.keeps x.toInCall.keep) (codeAny_func ?_)
  obtain ⟨t, ht, q⟩ := body cd A fr s H vs Q hg (hr.deeper _) h
  have J0 := inv_start (E := E0) (CX := CX0) S hr.hd e (few _ _ _ _ h) r x
  apply wpAny_mono (ht.nox.run [] s1 _ H _ J0 q)
  · intro fl s2 hs
    match fl, hs with
    | .ret u, hs => obtain ⟨v, _, H2, J, rv, z⟩ := hs; exact ⟨v, H2, J.os, J.bare, J.base, J.hok, rv, z⟩
    | .next, hs => obtain ⟨_, H2, J, z⟩ := hs; exact ⟨V.non, H2, J.os, J.bare, J.base, J.hok, rfl, z⟩
    | .brk, hs => obtain ⟨_, _, _, z⟩ := hs; exact z.elim
    | .cont, hs => obtain ⟨_, _, _, z⟩ := hs; exact z.elim
  · intro _ _ z
    exact z

/-- a callee by its name, with all its arguments given -/
def Cal (P : Program) (w : World) (K : PySem.W.Frag) (mg : Str → Option Value) (base : Heap) (x : Str) (k : Nat) (ps : List Str) (sp : Sp) : Prop :=
  ∃ f fd, FnOk P w K mg base CX0 k f fd ps sp ∧ Binds K fd ps [] ∧ mg x = some (.ref f) ∧ PySem.W.keepIn K (.ref f) = true
def CalG (P : Program) (w : World) (K : PySem.W.Frag) (mg : Str → Option Value) (base : Heap) (x : Str) (k : Nat) (ps : List Str) (sp : Sp) : Prop :=
  ∃ f fd, FnG P w K mg base k f fd ps sp ∧ Binds K fd ps [] ∧ mg x = some (.ref f) ∧ PySem.W.keepIn K (.ref f) = true
theorem Cal.mono {x : Str} {j k : Nat} {ps : List Str} {sp : Sp} (C : Cal P w K mg base x j ps sp) (h : j ≤ k) : Cal P w K mg base x k ps sp :=
  let ⟨f, fd, F, r⟩ := C
  ⟨f, fd, F.mono h, r⟩
end

section
variable {X : Cx} {k : Nat} {x : Str} {ps : List Str} {sp : Sp} {p pos : Pos} {e : Expr} {es : List Expr} {t : TA}

theorem pe_cal (C : Cal X.prog X.w X.K X.mg X.base x k ps sp) (hr : Room k X.A) (hg : Gl X x) (ha : PA X (e :: es) t) (hdb : (x == ("__debug__" : Str)) = false := by decide)
    (he : starEach (e :: es) X.env = (false, eval e X.env) :: starEach es X.env := by rfl) (hpl : (backTo pos (starEach es X.env)).any (·.1) = false := by rfl) :
    PE X (.Call (.Name x p) (e :: es) [] pos) (tCall sp [] E0 t) := by
  obtain ⟨_, _, F, b, g, kp⟩ := C
  exact pe_call F hr hg g kp b .nil pass0 ha hdb he hpl

theorem pe_calG (C : CalG X.prog X.w X.K X.mg X.base x k ps sp) (gd : X.A.guards = some []) (hr : Room k X.A) (hg : Gl X x) (ha : PA X (e :: es) t) (hdb : (x == ("__debug__" : Str)) = false := by decide)
    (he : starEach (e :: es) X.env = (false, eval e X.env) :: starEach es X.env := by rfl) (hpl : (backTo pos (starEach es X.env)).any (·.1) = false := by rfl) :
    PE X (.Call (.Name x p) (e :: es) [] pos) (tCall sp [] E0 t) := by
  obtain ⟨f, fd, F, b, g, kp⟩ := C
  constructor
  intro pins s σ H Q I h
  apply wpAny_Call_Name_kw (ld_glob I hg g ?_ hdb)
  apply PySem.W.callWith_K (h₀ := X.base) I.ok.mod.kin kp ?_ he hpl
  apply thn (ha.run pos pins s σ H _ I h)
  rintro us s1 ⟨vs, H1, I1, r, q⟩
  refine And.intro I1.kIn ?_
  have q' : sp (vs ++ []) H1 Q E0 := q
  rw [List.append_nil] at q'
  have n1 : us.length = ps.length := by rw [← r.length]; exact F.few _ _ _ _ q'
  have bb := b s1 us I1.kIn (by rw [List.append_nil]; exact n1)
  rw [List.append_nil] at bb
  apply wpAny_call
  apply codeAny_mono (F.go X.A X.stack s1 H1 ⟨us, []⟩ us vs Q gd hr I1.env0 bb r q')
  intro res s2 z
  match res, z with
  | .ok (.ret u), z => exact I1.after z
  | .ok .next, z => exact False.elim z
  | .ok .brk, z => exact False.elim z
  | .ok .cont, z => exact False.elim z
  | .error _, z => exact False.elim z
end

/-! ### repr of data -/
section
variable {X : Cx}
/-- repr(v): v data of any depth -/
def rRepr (K : PySem.W.Frag) : List V → Hp → VK → Prop := fun xs H Q => ∃ v d, xs = [v] ∧ Dp K H v d ∧ d.showable = true ∧ d.hasDict = false ∧ d.depth ≤ 40 ∧ d.shown.length ≤ sizeLine ∧ Q (.str d.shown) H
theorem call_reprD (gd : X.A.guards = some []) (hu : X.A.units + 64 < cLine) : CallR X (.builtin "repr") (rRepr X.K) := by
  intro pins s σ H xs us Q I r h
  obtain ⟨v, d, rfl, hd, sh, nd, dep, sz, q⟩ := h
  obtain ⟨u, rfl, ru⟩ := vals1 r
  have fin : ∀ (h' : Heap) (u : Tok) (tk : Nat), (∀ b o, s.heap.get? b = some o → h'.get? b = some o) → EP X pins σ Q (.str d.shown u) { s with heap := h', toks := tk } :=
    fun h' u tk kp => ⟨.str d.shown, H, I.kept kp, ⟨u, rfl⟩, q⟩
  obtain ⟨as, rd⟩ := Dp.reads I d v u hd ru
  cases hd with
  | lst hs ha =>
    cases ru
    exact repr_of_reads' rd sh (PyData.noDict_hsm nd) gd (by omega) (fun _ _ z => z) fin sz
  | tup hs ha =>
    cases ru
    exact repr_of_reads' rd sh (PyData.noDict_hsm nd) gd (by omega) (fun _ _ z => z) fin sz
  | non =>
    cases ru
    exact PySem.P.repr_of_none (fin _ _ _ fun _ _ z => z)
  | bl b =>
    cases ru
    exact PySem.P.repr_of_bool (by simpa only [PyData.shown] using fin s.heap _ (s.toks + 1) fun _ _ z => z)
  | int i =>
    obtain ⟨t, rfl⟩ := ru
    exact PySem.P.repr_of_int (by simpa [PyData.showable] using sh) (by simpa only [PyData.shown] using fin s.heap _ (s.toks + 1) fun _ _ z => z)
  | str z =>
    obtain ⟨t, rfl⟩ := ru
    exact PySem.P.repr_of_str (by simpa only [PyData.shown] using fin s.heap _ (s.toks + 1) fun _ _ z => z) (by simpa only [PyData.shown] using sz)
end

/-! ### the law's own entry -/
section
variable {P : Program} {w : World} {K : PySem.W.Frag} {mg mb : Str → Option Value}
/-- the state in which the law is entered: at most the script is tracked -/
structure Entry (P : Program) (w : World) (K : PySem.W.Frag) (H : Hp) (h : Heap) (a : Addr) (ns : List Int) : Prop where
  only : Only H
  seq : SqL K H a (ns.map V.int)
  held : HOk P w H h
  nope : ∀ b, b ≠ a → H b = none
  off : H a = none ∨ K.lookup a = none
theorem Entry.there {s : Shared} {a : Addr} {vs : List Value} {ns : List Int} (hk : K.In s.heap) (at_a : s.heap.get? a = some { cls := .type "list", data := .seq vs.toArray }) (hi : IntsAre vs ns) (few : ns.length ≤ sizeLine) :
    ∃ H, Entry P w K H s.heap a ns := by
  have rel := vals_ints hi
  by_cases e : ∃ o, K.lookup a = some o
  · obtain ⟨o, e⟩ := e
    obtain rfl : o = { cls := .type "list", data := .seq vs.toArray } := Option.some.inj ((hk a o e).symm.trans at_a)
    have nl : ∀ b u, (fun _ => none : Hp) b = some u → False := fun b u q => by cases q
    exact ⟨fun _ => none, fun _ => Or.inl rfl, Or.inr ⟨_, vs.toArray, _, e, rfl, rfl, rfl, by rw [List.size_toArray, hi.length]; exact few, by simpa using rel⟩, fun b u q => (nl b u q).elim, fun _ _ => rfl, Or.inl rfl⟩
  · have e' : K.lookup a = none := by
      cases q : K.lookup a with
      | none => rfl
      | some o => exact absurd ⟨o, q⟩ e
    refine ⟨fun b => if b = a then some (.frz { cls := .type "list", data := .seq vs.toArray } (.lst (ns.map V.int))) else none, ?_, Or.inl (Or.inr ⟨_, if_pos rfl⟩), ?_, fun b hb => if_neg hb, Or.inr e'⟩
    · intro b
      by_cases hb : b = a
      · right; exact ⟨_, _, if_pos hb⟩
      · left; exact if_neg hb
    · intro b u q
      by_cases hb : b = a
      · subst hb
        simp only [if_pos] at q
        cases q
        exact ⟨at_a, by rw [List.length_map]; exact few, vs, _, rel, at_a⟩
      · simp [hb] at q
theorem enter_law {k : Nat} {fa a : Addr} {fd : FuncData} {x : Str} {sp : Sp} {s : Shared} {vs : List Value} {ns : List Int}
    (hk : K.In s.heap) (hn : s.heap.Ns mainGlobals mg) (hb : s.heap.Ns builtinsNs mb) (hbb : ∀ x : Str, x ≠ "__name__" → mb x = bootBuiltins x) (nl : s.heap.NoLimit) (hg : s.gens = #[])
    (at_a : s.heap.get? a = some { cls := .type "list", data := .seq vs.toArray }) (hi : IntsAre vs ns) (few : ns.length ≤ sizeLine) (hr : Room k callerA)
    (F : ∀ base : Heap, K.In base → base.Ns mainGlobals mg → FnG P w K mg base k fa fd [x] sp) (hbind : ∀ (s : Shared) (u : Value), BindsTo s fd ⟨[u], []⟩ [(x, u)])
    (hsp : ∀ H : Hp, Only H → SqL K H a (ns.map V.int) → sp [.ref a] H (fun v _ => v = .bl true) E0) :
    codeAny (model P w) callerA (.call (.ref fa) ⟨[.ref a], []⟩) (fun r s' => r = .ok (.ret (.bool true)) ∧ OldK s.heap s'.heap ∧ s'.os = s.os ∧ AllBare s'.gens) s := by
  obtain ⟨H, En⟩ := Entry.there (P := P) (w := w) hk at_a hi few
  have out : ∀ {b : Addr} {o : Obj}, s.heap.get? b = some o → b ≠ a → (hidT s.heap H).get? b = some o := fun q hne => hidT_get q (En.nope _ hne)
  have dicts : ∀ {b : Addr} {m : Str → Option Value}, s.heap.Ns b m → (hidT s.heap H).Ns b m := by
    rintro b m ⟨o, es, ep, q, d, r⟩
    refine ⟨o, es, ep, out q ?_, d, r⟩
    rintro rfl
    rw [at_a] at q
    cases q
    cases d
  have inK : K.In (hidT s.heap H) := by
    intro b o q
    by_cases hba : b = a
    · subst hba
      rcases En.off with z | z
      · exact hidT_get (hk _ _ q) z
      · rw [z] at q; cases q
    · exact out (hk _ _ q) hba
  have modl : Mod K mg (hidT s.heap H) := {
    kin := inK
    glob := dicts hn
    blt := ⟨mb, dicts hb, hbb⟩
    nolimit := by obtain ⟨mc, z1, z2⟩ := nl; exact ⟨mc, dicts z1, z2⟩ }
  have none_in : ∀ b, b ∈ frs ([] : List Env) → False := fun b z => by
    have z' : b ∈ ([] : List Addr) := z
    cases z'
  have e0 : Env0 P w K mg (hidT s.heap H) callerA [] s H := {
    frames := rfl
    mod := modl
    bs := fun b o q => of_hidT q
    bsz := Nat.le_of_eq (hidT_size _ _)
    funs := trivial
    frf := fun b z => (none_in b z).elim
    hok := En.held
    bare := .of_eq hg }
  apply codeAny_mono ((F _ inK (dicts hn)).go callerA [] s H ⟨[.ref a], []⟩ [.ref a] [.ref a] _ rfl hr e0 (hbind s (.ref a)) (.cons rfl .nil) (hsp H En.only En.seq))
  intro r s' z
  match r, z with
  | .error _, z => exact False.elim z
  | .ok .next, z => exact False.elim z
  | .ok .brk, z => exact False.elim z
  | .ok .cont, z => exact False.elim z
  | .ok (.ret u), z =>
    obtain ⟨v, H', os, bare, un, held, rv, rfl⟩ := z
    cases rv
    refine ⟨rfl, OldK.of_keep ?_, os, bare⟩
    intro b o q
    rcases En.only b with y | ⟨ob, xs, y⟩
    · exact un.keep b o q y (none_in b) (by intro y2; cases y2)
    · have y1 := (En.held b _ y).left
      have y2 := (held b _ (un.frzs b ob _ y)).left
      rw [y1] at q
      cases q
      exact y2
end

/-- the goal that k_head leaves, from the law's promise -/
theorem walkG {l : PySem.W.OpenLaw} {n k : Nat} {q : Program} {loose : List Str} {XP : (Str → Option Value) → Heap → Prop} {YP : World → Heap → Prop} {d : DefRec} {K : Params → PySem.W.Frag} {sp : PySem.W.Frag → Sp} {x : Str}
    (hn : l.most = some n) (few : n ≤ sizeLine) (hdf : d.params.defaults = []) (hr : Room k callerA) (hY : ∀ (w : World) (h : Heap), YP w h → (K w.params).In h)
    (F : ∀ (w : World) (mg : Str → Option Value) (fa : Addr) (h : Heap), (K w.params).In h → h.Ns mainGlobals mg → mg d.name = some (.ref fa) →
      ∃ fd : FuncData, (∀ (s : Shared) (u : Value), BindsTo s fd ⟨[u], []⟩ [(x, u)]) ∧ ∀ base : Heap, (K w.params).In base → base.Ns mainGlobals mg → FnG l.prog w (K w.params) mg base k fa fd [x] (sp (K w.params)))
    (hsp : ∀ (K : PySem.W.Frag) (H : Hp) (a : Addr) (ns : List Int), ns.length ≤ n → SqL K H a (ns.map V.int) → sp K [.ref a] H (fun v _ => v = .bl true) E0) :
    PySem.W.WalkO q loose XP YP l.row.toRowW d [] (fun f vs => PySem.call f vs) := by
  apply Att.attach_call hn hdf
  intro w s0 s1 mg mb fa o pm cd doc a vs ns G Y ho hd hcd hmg hobj hints hlen hg
  obtain ⟨fd, hb, hF⟩ := F w mg fa _ (hY w _ Y) G.T.g hmg
  exact enter_law (hY w _ Y) G.T.g G.T.b G.T.builtins G.T.nolimit hg hobj hints (Nat.le_trans hlen few) hr hF hb (fun H _ hS => hsp _ H a ns hlen hS)
end Pg

/-! len(set(names)) for texts, a text times a number. -/
namespace Pg
open PySem PySem.Spec PyProof.Rows L2

/-- how many different texts there are: each counted where it stands first -/
def cntS : List Str → Nat
  | [] => 0
  | x :: r => (if x ∈ r then 0 else 1) + cntS r
theorem cntS_le : ∀ l : List Str, cntS l ≤ l.length
  | [] => Nat.le_refl 0
  | x :: r => by
    have h := cntS_le r
    show (if x ∈ r then 0 else 1) + cntS r ≤ r.length + 1
    split <;> omega
theorem cntS_full : ∀ l : List Str, cntS l = l.length ↔ l.Nodup
  | [] => by simp [cntS]
  | x :: r => by
    have h := cntS_full r
    have h1 := cntS_le r
    rw [List.nodup_cons, ← h]
    show (if x ∈ r then 0 else 1) + cntS r = r.length + 1 ↔ _
    split
    · rename_i m
      constructor
      · intro z; omega
      · intro z; exact absurd m z.1
    · rename_i m
      constructor
      · intro z; exact ⟨m, by omega⟩
      · intro z; omega
theorem cntS_snoc : ∀ (l : List Str) (x : Str), cntS (l ++ [x]) = if x ∈ l then cntS l else cntS l + 1
  | [], x => by simp [cntS]
  | y :: r, x => by
    have ih := cntS_snoc r x
    show (if y ∈ r ++ [x] then 0 else 1) + cntS (r ++ [x]) = if x ∈ y :: r then (if y ∈ r then 0 else 1) + cntS r else (if y ∈ r then 0 else 1) + cntS r + 1
    rw [ih]
    by_cases e : x = y
    · subst e
      by_cases m : x ∈ r <;> simp [m] <;> omega
    · have e' : ¬ y = x := fun z => e z.symm
      by_cases m : x ∈ r <;> by_cases m2 : y ∈ r <;> simp [m, m2, e, e'] <;> omega

section
variable {prog : Program} {w : World} {A : Around} {R : Result → Shared → Prop}
theorem setOf_moved {h h' : Heap} {S : Addr} {g : Str → Bool} {c : Nat} (z : h.SetOf (PySem.strKind prog w) S g c) (kp : ∀ o, h.get? S = some o → h'.get? S = some o) : h'.SetOf (PySem.strKind prog w) S g c := by
  obtain ⟨o, es, ep, tb, ho, more⟩ := z
  exact ⟨o, es, ep, tb, kp o ho, more⟩
/-- the loop of set.update over texts -/
theorem set_texts_loop {I : Addr} {fp wr : List Addr} {G : Array GenState → Array GenState → Prop} {n : Nat} {Pv : Nat → Value → Prop} {St : Nat → Shared → Prop}
    (W : WalksS prog w A.in1 I fp wr G n Pv St) (S : Addr) (off : S ∉ fp) (xs : List Str) (hn : n = xs.length) (room : xs.length + 1 < scanBound)
    (vals : ∀ i v, Pv i v → ∃ x t, xs[i]? = some x ∧ v = .str x t) :
    ∀ (left i : Nat) (s : Shared), i + left = n → St i s → s.heap.SetOf (PySem.strKind prog w) S (fun x => decide (x ∈ xs.take i)) (cntS (xs.take i)) →
      (∀ s', Moved (S :: wr) G s s' → s'.heap.SetOf (PySem.strKind prog w) S (fun x => decide (x ∈ xs)) (cntS xs) → R (.ok (.ret .none)) s') →
      codeAny (model prog w) A (.builtin "set.update.loop" ⟨[.ref S, .ref I], []⟩) R s := by
  have offw : S ∉ wr := fun z => off (W.sub _ z)
  have sub : ∀ b ∈ wr, b ∈ S :: wr := fun b z => List.mem_cons_of_mem _ z
  intro left
  induction left with
  | zero =>
    intro i s e st set fin
    obtain rfl : i = n := by omega
    apply codeAny_builtin PyProof.Rows.F.entry_set_update_loop
    rw [Around.under_plainId PyProof.Rows.F.plain_set_update_loop _]
    show wpAny _ A.in1 (pyNext (.ref I) >>= _) _ _ s
    apply wpAny_bind
    apply W.done s _ _ st
    intro s' mv
    have all : xs.take i = xs := List.take_of_length_le (by omega)
    rw [all] at set
    show wpAny _ A.in1 (ret Value.none) _ _ s'
    exact wpAny_pure (fin s' (mv.mono sub) (setOf_moved set fun o q => mv.heap S o offw q))
  | succ left ih =>
    intro i s e st set fin
    have lt : i < n := by omega
    apply codeAny_builtin PyProof.Rows.F.entry_set_update_loop
    rw [Around.under_plainId PyProof.Rows.F.plain_set_update_loop _]
    show wpAny _ A.in1 (pyNext (.ref I) >>= _) _ _ s
    apply wpAny_bind
    apply W.item i s _ _ lt st
    intro v s' pv' st' mv
    obtain ⟨x, t, hx, rfl⟩ := vals i v pv'
    have set' := setOf_moved set fun o q => mv.heap S o offw q
    show wpAny _ A.in1 (holding [Value.str x t] (setAdd S (.str x t)) >>= _) _ _ s'
    apply wpAny_bind
    apply wpAny_holding
    unfold setAdd
    apply wpAny_holding
    apply wpAny_bind
    apply (PySem.strKind prog w).pyHash (k := x) (strKind_is _ _ _ _)
    have cle := cntS_le (xs.take i)
    rw [List.length_take] at cle
    apply wpAny_setAddHashed_of (knd := PySem.strKind prog w) (s := { s' with toks := s'.toks + 1 }) (strKind_is _ _ _ _) rfl set' (by omega)
    intro h' but set2
    have nx : xs.take (i + 1) = xs.take i ++ [x] := by
      rw [List.take_add_one, hx]
      rfl
    have set3 : h'.SetOf (PySem.strKind prog w) S (fun y => decide (y ∈ xs.take (i + 1))) (cntS (xs.take (i + 1))) := by
      refine PyProof.Rows.SetOf_congr set2 (fun y => ?_) ?_
      · rw [nx]
        simp [List.mem_append]
      · rw [nx, cntS_snoc]
        by_cases m : x ∈ xs.take i <;> simp [m]
    apply wpAny_pure
    refine ⟨plainId_quiet PyProof.Rows.F.plain_set_update_loop _, ih (i + 1) _ (by omega) ?_ set3 ?_⟩
    · apply W.frame _ s' _ _ st' (Nat.le_succ _)
      intro b hb o q
      have : b ≠ S := fun z => off (z ▸ hb)
      rw [but.2 b this]
      exact q
    · intro s2 mv2 z
      apply fin s2 _ z
      apply Moved.trans W.gtrans _ mv2
      apply (mv.mono sub).then_heap (Nat.le_succ _)
      intro b o hb q
      have : b ≠ S := fun z => hb (z ▸ List.mem_cons_self)
      rw [but.2 b this]
      exact q
end

set_option maxHeartbeats 8000000 in
/-- set(t), t a tuple of texts -/
theorem set_of_texts {prog : Program} {w : World} {A : Around} {E : Value → Shared → Prop} {s : Shared} {l : Addr} {items : Array Value} {xs : List Str} {Q : Value → Shared → Prop}
    (hot : A.handled = none) (tup : s.heap.IsTuple l items) (are : StrsAre items.toList xs) (room : xs.length + 1 < scanBound)
    (k : ∀ (h' : Heap) (tk : Nat), h'.SetOf (PySem.strKind prog w) s.heap.objs.size (fun x => decide (x ∈ xs)) (cntS xs) → (∀ b o, s.heap.get? b = some o → h'.get? b = some o) →
      Q (.ref s.heap.objs.size) { s with heap := h', toks := tk }) : wpAny (model prog w) A (call (.type "set") [.ref l]) Q E s := by
  have size : items.size = xs.length := by
    have z := StrsAre.len_eq are
    rw [Array.length_toList] at z
    exact z.symm ▸ rfl
  obtain ⟨_, _, mro⟩ := PySem.F.called_set.mro
  have made := PySem.F.called_set.made
  have sub := PySem.F.called_set.sub
  apply wpAny_call
  apply codeAny_of_tree
  show wpAny _ _ (callAny (.type "set") _) _ _ _
  apply wpAny_pure
  refine And.intro (Code.quiet_builtin _ (by decide +kernel)) ?_
  apply codeAny_builtin PySem.F.entry_type_call
  rw [Around.under_plain (weight_type_call_type "set" [.ref l] []) rfl]
  have t1 := PySem.F.called_set.notType
  have t2 := PySem.F.called_set.canCreate
  have t3 := PySem.F.typeCall_set_1 (.ref l)
  repeat (any_goals (first | assumption | wp_step))
  apply codeAny_mono (code_set_new_1 (.ref l) (E := E) (Q₁ := fun obj s1 => ∃ led : Bool, obj = .ref s.heap.objs.size ∧ s1 = { s with heap := s.heap.push { cls := .type "set", dict := none, data := .set #[] 0 (.fresh 0 0 led) } }) fun led => ⟨led, rfl, rfl⟩)
  intro r s1 hr
  match r, hr with
  | .error _, hr => exact hr
  | .ok .next, hr => exact hr.elim
  | .ok .brk, hr => exact hr.elim
  | .ok .cont, hr => exact hr.elim
  | .ok (.ret obj), hr =>
    obtain ⟨led, rfl, rfl⟩ := hr
    let so : Obj := { cls := .type "set", dict := none, data := .set #[] 0 (.fresh 0 0 led) }
    have here : (s.heap.push so).get? s.heap.objs.size = some so := Heap.get?_push_size _ rfl
    have typ : Shared.TypeIs { s with heap := s.heap.push so } (.ref s.heap.objs.size) "set" := ⟨_, here, rfl⟩
    have i1 := PySem.F.called_set.init.lookup
    have i2 := PySem.F.called_set.init.bind (.ref s.heap.objs.size)
    repeat (any_goals (first | assumption | wp_step))
    apply codeAny_mono (codeAny_call_builtin (R := wants (fun r s2 => r = .none ∧ ∃ h' tk, s2 = { s with heap := h', toks := tk } ∧
      h'.SetOf (PySem.strKind prog w) s.heap.objs.size (fun x => decide (x ∈ xs)) (cntS xs) ∧ (∀ b o, s.heap.get? b = some o → h'.get? b = some o)) E)
      PySem.F.called_set.init.plain PySem.F.entry_set_init (check_set_init_1 typ ?_))
    · intro r2 s2 hr2
      match r2, hr2 with
      | .error _, hr2 => exact hr2
      | .ok .next, hr2 => exact hr2.elim
      | .ok .brk, hr2 => exact hr2.elim
      | .ok .cont, hr2 => exact hr2.elim
      | .ok (.ret v2), hr2 =>
        obtain ⟨rfl, h', tk, rfl, set, kp⟩ := hr2
        repeat (any_goals (first | assumption | wp_step))
        exact k _ _ set kp
    · obtain ⟨⟨oc, od, oda, osl⟩, at_l, cl, nl, dl⟩ := tup
      simp only at cl dl
      subst cl
      subst dl
      have at_l2 : (s.heap.push so).get? l = some { cls := .type "tuple", dict := od, data := .seq items nl, slots := osl } := Heap.get?_push_of_some _ at_l
      have s1 := PySem.F.sub_tuple_set
      have s2 := PySem.F.sub_tuple_frozenset
      have ne : (Value.type "tuple" == Value.type "dict") = false := by decide
      have tup2 : (s.heap.push so).IsTuple l items := ⟨_, at_l2, rfl, nl, rfl⟩
      unfold Builtin.«set.__init__» noKeywords Builtin.Frozenset.updateFrom
      generalize hPI : pyIter = PI
      wp_walk
      subst hPI
      apply wpAny_pyIter_tuple tup2
      apply wpAny_bind
      apply wpAny_runValue
      have lt : l < s.heap.objs.size := Heap.lt_size at_l
      have sz : (s.heap.push so).objs.size = s.heap.objs.size + 1 := Heap.size_push ..
      have ne1 : l ≠ (s.heap.push so).objs.size := by rw [sz]; exact Nat.ne_of_lt (Nat.lt_succ_of_lt lt)
      have off : s.heap.objs.size ∉ [(s.heap.push so).objs.size, l] := by
        rw [sz]
        intro z
        rcases List.mem_cons.mp z with z | z
        · exact Nat.ne_of_lt (Nat.lt_succ_self _) z
        · rcases List.mem_cons.mp z with z | z
          · exact Nat.ne_of_gt lt z
          · cases z
      have hot3 : A.in1.in1.in1.handled = none := by simp [hot]
      apply set_texts_loop ((Walks.tuple hot3 _ l ne1 items).toS) s.heap.objs.size off xs size room ?vals items.size 0 _ (by omega) ⟨⟨_, Heap.get?_push_size _ rfl, rfl, rfl⟩, (tup2.push _)⟩ ?s0 ?fin
      case vals =>
        intro i v hv
        have hi : i < xs.length := by rw [← size]; exact (Array.getElem?_eq_some_iff.mp hv).1
        obtain ⟨t, e⟩ := SS.strs_at are i v (by rw [Array.getElem?_toList]; exact hv)
        refine ⟨xs[i], t, List.getElem?_eq_getElem hi, ?_⟩
        rw [e, List.getD_eq_getElem?_getD, List.getElem?_eq_getElem hi]
        rfl
      case s0 =>
        have here2 : ((s.heap.push so).push { cls := .type "tuple_iterator", data := .fields #[.ref l, .int 0 0] }).get? s.heap.objs.size = some so := Heap.get?_push_of_some _ here
        exact PyProof.Rows.SetOf_congr ((PyProof.Rows.setObjOf_fresh (knd := PySem.strKind prog w) led).setOf here2 (by unfold scanBound; omega)) (fun _ => rfl) rfl
      case fin =>
        intro s' mv set
        obtain ⟨h', g', d', tk', os'⟩ := s'
        obtain rfl : g' = s.gens := mv.gens
        obtain rfl : d' = s.drawn := mv.drawn
        obtain rfl : os' = s.os := mv.os
        show wpAny _ _ _ _ _ _
        apply wpAny_pure
        show wpAny _ _ (ret Value.none) _ _ _
        apply wpAny_pure
        refine ⟨rfl, h', tk', rfl, set, ?_⟩
        intro b o q
        have lb : b < s.heap.objs.size := Heap.lt_size q
        apply mv.heap b o _ (Heap.get?_push_of_some _ (Heap.get?_push_of_some _ q))
        intro z
        rcases List.mem_cons.mp z with z | z
        · exact Nat.ne_of_lt lb z
        · rcases List.mem_cons.mp z with z | z
          · rw [sz] at z
            exact Nat.ne_of_lt (Nat.lt_succ_of_lt lb) z
          · cases z

/-- len(set(t)), t a tuple of texts -/
def tCountT (K : PySem.W.Frag) (ta : TE) : TE := fun σ H Q => ta σ H fun x H1 => ∃ (l : Addr) (xs : List Str), x = .ref l ∧ SqT K H1 l (xs.map V.str) ∧ xs.length ≤ 1000 ∧ Q (.int (cntS xs : Nat)) H1
theorem pe_countT {X : Cx} {a : Expr} {ta : TE} {p p2 q pos : Pos} (hc : X.calm = true) (hg : Gl X "len") (hm : X.mg "len" = none) (hg2 : Gl X "set") (hm2 : X.mg "set" = none) (ha : PE X a ta)
    (na : starEach [a] X.env = (false, eval a X.env) :: starEach [] X.env := by rfl) : PE X (.Call (.Name "len" p) [.Call (.Name "set" p2) [a] [] q] [] pos) (tCountT X.K ta) := by
  constructor
  intro pins s σ H Q I h
  apply Call_ (ld_blt I hg hm boot_len ?_)
  apply PyProof.Rows.callWith_builtin1 (PyProof.Rows.args_cons ?_ rfl) rfl rfl
  apply Call_ (ld_blt I hg2 hm2 boot_set ?_)
  apply PyProof.Rows.callWith_type1 (PyProof.Rows.args_cons (thn (ha.run pins s σ H _ I h) ?_) na) na rfl
  rintro v s1 ⟨x, H1, I1, r1, l, xs, rfl, ht, few, z⟩
  apply PyProof.Rows.args_nil
  cases r1
  obtain ⟨its, r, tp, _⟩ := I1.tuple ht
  apply set_of_texts (I1.ok.hd hc) tp (by simpa using strsAre_of r) (by unfold scanBound; omega)
  intro h' tk set kp
  apply PyProof.Rows.args_nil
  obtain ⟨o, es, ep, tb, ho, ex, od, _, _, _, fl, nn⟩ := set
  have I2 : Inv X pins σ H1 { s1 with heap := h', toks := tk } := I1.kept kp
  have le := cntS_le xs
  apply call_len_set ho ex od fl (by rw [nn]; omega)
  exact ⟨.int (cntS xs : Nat), H1, I2.tok _, ⟨_, by rw [nn]⟩, z⟩
end Pg

/-! Loops over texts, products of texts, what the laws' helpers promise. -/
namespace Pg
open PySem PySem.Spec PyProof.Rows L2

/-! ### loops and comprehensions over a text -/
theorem for_str {z : Str} {g : TG} {tb : TS} {D : Ends} {σ : L2.St} {H : Hp} (Pv : Nat → L2.St → Hp → Prop) (h0 : Pv 0 σ H)
    (hs : ∀ i c σ H, z.cps.toList[i]? = some c → Pv i σ H → g (.str ⟨#[c]⟩) σ H fun σ2 H2 => tb { D with nx := Pv (i + 1), ct := Pv (i + 1), bk := D.nx } σ2 H2) (hd : ∀ σ H, Pv z.length σ H → D.nx σ H) :
    ∃ W : Nat → Nat → L2.St → Hp → Prop, (∃ m, W 0 m σ H) ∧ ∀ i m σ H, W i m σ H →
      ((Its z).stop i H ∧ D.nx σ H) ∨ ((Its z).go i H ∧ ∃ N : L2.St → Hp → Prop, (∀ σ' H', N σ' H' → ∃ m', m' < m ∧ W (i + 1) m' σ' H') ∧ ∀ x H', (Its z).yld i H x H' → g x σ H' fun σ2 H2 => tb { D with nx := N, ct := N, bk := D.nx } σ2 H2) := by
  refine ⟨fun i m σ H => i + m = z.length ∧ Pv i σ H, ⟨z.length, by omega, h0⟩, ?_⟩
  rintro i m σ H ⟨e, p⟩
  by_cases lt : i < z.length
  · refine Or.inr ⟨lt, Pv (i + 1), fun σ' H' q => ⟨m - 1, by omega, by omega, q⟩, ?_⟩
    rintro x H' ⟨rfl, c, hc, rfl⟩
    exact hs i c σ _ (by rw [Array.getElem?_toList]; exact hc) p
  · obtain rfl : i = z.length := by omega
    exact Or.inl ⟨Nat.le_refl _, hd σ H p⟩
theorem lc_str {z : Str} {g : TG} {tt : TT} {te : TE} {vs : List Nat} {σ : L2.St} {H1 : Hp} {D : Addr} {Qd : Hp → Prop} (Pv : Nat → Hp → Prop) (h0 : Pv 0 (upd H1 D (.lst [])))
    (hs : ∀ i c H, z.cps.toList[i]? = some c → Pv i H → g (.str ⟨#[c]⟩) (wipe σ vs) H fun σ2 H2 => wipe σ2 vs = wipe σ vs ∧ tt σ2 H2 fun b H3 =>
      if b = true then te σ2 H3 fun y H4 => ∃ acc, H4 D = some (.lst acc) ∧ acc.length < sizeLine ∧ Pv (i + 1) (upd H4 D (.lst (acc ++ [y]))) else Pv (i + 1) H3) (hd : ∀ H, Pv z.length H → Qd H) :
    ∃ W : Nat → Nat → Hp → Prop, (∃ m, W 0 m (upd H1 D (.lst []))) ∧ ∀ i m H, W i m H →
      ((Its z).stop i H ∧ Qd H) ∨ ((Its z).go i H ∧ ∃ Nx : Hp → Prop, (∀ H', Nx H' → ∃ m', m' < m ∧ W (i + 1) m' H') ∧ ∀ x H', (Its z).yld i H x H' → g x (wipe σ vs) H' fun σ2 H2 => wipe σ2 vs = wipe σ vs ∧ tt σ2 H2 fun b H3 =>
        if b = true then te σ2 H3 fun y H4 => ∃ acc, H4 D = some (.lst acc) ∧ acc.length < sizeLine ∧ Nx (upd H4 D (.lst (acc ++ [y]))) else Nx H3) := by
  refine ⟨fun i m H => i + m = z.length ∧ Pv i H, ⟨z.length, by omega, h0⟩, ?_⟩
  rintro i m H ⟨e, p⟩
  by_cases lt : i < z.length
  · refine Or.inr ⟨lt, Pv (i + 1), fun H' q => ⟨m - 1, by omega, by omega, q⟩, ?_⟩
    rintro x H' ⟨rfl, c, hc, rfl⟩
    exact hs i c _ (by rw [Array.getElem?_toList]; exact hc) p
  · obtain rfl : i = z.length := by omega
    exact Or.inl ⟨Nat.le_refl _, hd H p⟩

/-! ### a module's number -/
theorem pe_cI {X : Cx} {x : Str} {i : Int} {pos : Pos} (hg : Gl X x) (hm : ∃ t, X.mg x = some (.int i t)) (hd : (x == ("__debug__" : Str)) = false := by decide) : PE X (.Name x pos) (tC (.int i)) := by
  obtain ⟨t, e⟩ := hm
  exact pe_glob hg e ⟨t, rfl⟩ hd

/-! ### a text times a number -/
def repS (z : Str) (n : Nat) : Str := ⟨((List.replicate n z.cps.toList).flatten).toArray⟩
theorem foldl_app : ∀ (l : List (Array Nat)) (a : Array Nat), (l.foldl (· ++ ·) a).toList = a.toList ++ (l.map Array.toList).flatten
  | [], a => by simp
  | x :: r, a => by
    rw [List.foldl_cons, foldl_app r (a ++ x)]
    simp
theorem op_mulS {X : Cx} : OpR X (binaryOp .Mult) (fun x y H Q => ∃ (z : Str) (n : Nat), x = .str z ∧ y = .int n ∧ n ≤ 1000 ∧ z.length ≤ 1000 ∧ Q (.str (repS z n)) H) := by
  intro pins s σ H x y v u Q I rx ry h
  obtain ⟨z, n, rfl, rfl, n1, z1, q⟩ := h
  obtain ⟨t, rfl⟩ := rx
  obtain ⟨t', rfl⟩ := ry
  have fin : ∀ (g : Str) (u : Tok) (k : Nat), g = repS z n → EP X pins σ Q (.str g u) { s with toks := k } := by
    rintro g u k rfl
    exact ⟨.str (repS z n), H, I.tok _, ⟨u, rfl⟩, q⟩
  have big : (z.length : Int) ≤ 1000 := by omega
  have lenz : z.length = z.cps.toList.length := by simp [Str.length]
  apply PySem.P.mul_str
  · have h1 : ¬ ((n : Int) < -(2 ^ 63 : Int)) := by omega
    have h2 : ¬ ((n : Int) ≥ 2 ^ 63) := by omega
    rw [decide_eq_false h1, decide_eq_false h2]
    rfl
  · intro n0 _
    have pos : (0 : Int) < n := by omega
    have : (1000 : Int) ≤ (2 ^ 63 - 1) / n := (Int.le_ediv_iff_mul_le pos).mpr (by have : (n : Int) ≤ 1000 := by omega
                                                                                   omega)
    omega
  · intro n0 _
    have h2 : z.length * n ≤ 1000 * 1000 := Nat.mul_le_mul z1 n1
    have hl : sizeLine = 16777216 := sizeLine_eq
    show decide (z.length * ((n : Int)).toNat > sizeLine) = false
    rw [Int.toNat_natCast, hl]
    exact decide_eq_false (by omega)
  · by_cases h0 : (n : Int) < 1
    · rw [if_pos h0]
      have e : n = 0 := by omega
      subst e
      exact ⟨by decide, fin _ _ _ (Str.ext' (by simp [repS, Str.empty]))⟩
    · rw [if_neg h0]
      by_cases h1 : ((n : Int) == 1 || z.length == 0) = true
      · rw [if_pos h1]
        rcases Bool.or_eq_true_iff.mp h1 with e | e
        · have e1 : n = 1 := by have := eq_of_beq e; omega
          subst e1
          refine fin z t s.toks (Str.ext' ?_)
          simp [repS]
        · have e1 : z.cps.toList = [] := List.eq_nil_of_length_eq_zero (by rw [← lenz]; exact eq_of_beq e)
          refine fin z t s.toks (Str.ext' ?_)
          apply Array.toList_inj.mp
          rw [e1]
          simp [repS, e1]
      · rw [if_neg h1]
        have eq : (⟨(List.replicate ((n : Int)).toNat z.cps).foldl (· ++ ·) #[]⟩ : Str) = repS z n := by
          apply Str.ext'
          apply Array.toList_inj.mp
          rw [foldl_app, Int.toNat_natCast]
          simp [repS]
        rw [eq]
        refine ⟨?_, fin _ _ _ rfl⟩
        have hl : sizeLine = 16777216 := sizeLine_eq
        have : (repS z n).length = n * z.length := by simp [repS, Str.length]
        rw [this, hl]
        have h2 : n * z.length ≤ 1000 * 1000 := Nat.mul_le_mul n1 z1
        omega
end Pg
namespace Pg
open PySem PySem.Spec PyProof.Rows L2
/-- within a comprehension: the written part is the def's own -/
theorem ix_listK {X : Cx} {K : PySem.W.Frag} (h : X.K = K) : IxR X (rIxL K) := h ▸ ix_list
theorem ix_tupK {X : Cx} {K : PySem.W.Frag} (h : X.K = K) : IxR X (rIxT K) := h ▸ ix_tup
end Pg

/-! A walk over the items of a written dict of the module. -/
namespace Pg
open PySem PySem.Spec PyProof.Rows L2

/-- the entries of a written dict, as values -/
def Entries (es : Array DictEntry) (kvs : List (V × V)) : Prop := kvs.length = es.size ∧ ∀ (i : Nat) (hi : i < es.size), ∃ k v, kvs[i]? = some (k, v) ∧ RelV k es[i].key ∧ RelV v es[i].val
theorem entries3 {e0 e1 e2 : DictEntry} {k0 v0 k1 v1 k2 v2 : V} (a0 : RelV k0 e0.key) (b0 : RelV v0 e0.val) (a1 : RelV k1 e1.key) (b1 : RelV v1 e1.val) (a2 : RelV k2 e2.key) (b2 : RelV v2 e2.val) :
    Entries #[e0, e1, e2] [(k0, v0), (k1, v1), (k2, v2)] :=
  ⟨rfl, fun i hi => match i, hi with
    | 0, _ => ⟨_, _, rfl, a0, b0⟩
    | 1, _ => ⟨_, _, rfl, a1, b1⟩
    | 2, _ => ⟨_, _, rfl, a2, b2⟩
    | n + 3, hi => absurd hi (by show ¬ (n + 3 < 3); omega)⟩
/-- its items, each a new tuple -/
def ItW (kvs : List (V × V)) : It :=
  ⟨fun i _ => i < kvs.length, fun i H x H' => ∃ T k v, kvs[i]? = some (k, v) ∧ x = .ref T ∧ H T = none ∧ H' = upd H T (.tup [k, v]), fun i _ => kvs.length ≤ i⟩
theorem raw_of {K : PySem.W.Frag} {h : Heap} {d : Addr} {es : Array DictEntry} {n : Nat} (inK : K.In h) (e : K.lookup d = some ⟨.type "dict", none, .dict es n, #[]⟩) : h.DictRaw d es n :=
  ⟨_, inK _ _ e, ⟨rfl, rfl, rfl⟩, rfl⟩
theorem turn_itemsW {P : Program} {w : World} {K : PySem.W.Frag} {d : Addr} {es : Array DictEntry} {n : Nat} {kvs : List (V × V)} {elts : List Expr} {kk : Nat} {tpos : Pos} (it : Addr)
    (at_d : K.lookup d = some ⟨.type "dict", none, .dict es n, #[]⟩) (en : Entries es kvs) : Turn P w K (.Tuple elts kk tpos) (ItW kvs) [it] it (fun i h => ∃ ok ov, IsItemIter h it d i es.size n ok ov) := by
  constructor
  case mem => simp
  case obj =>
    rintro i h ⟨ok, ov, e⟩ b hb
    obtain rfl : b = it := by simpa using hb
    exact ⟨_, e, fun v z => nomatch z⟩
  case keep =>
    rintro i h h' ⟨ok, ov, e⟩ k
    exact ⟨ok, ov, k it (by simp) _ e⟩
  case item =>
    intro X hP hw hK hc i pins s σ H E I hf st hg
    subst hP hw hK
    obtain ⟨ok, ov, he⟩ := st
    have lt : it < s.heap.objs.size := Heap.lt_size he
    have hi : i < es.size := by rw [← en.1]; exact hg
    obtain ⟨k, v, hkv, rk, rv⟩ := en.2 i hi
    apply wpAny_pyNext_items_item_raw he (raw_of I.kIn at_d) hi
    intro h' out here size kp
    refine ⟨_, rfl, ?_⟩
    apply wpAny_letOwnedTupleGo_items (s := { s with heap := h' }) out
    intro h2 back but
    have here2 : h2.get? s.heap.objs.size = some { cls := .type "tuple", data := .seq #[es[i].key, es[i].val] } := (but.2 _ (Nat.ne_of_gt lt)).trans here
    have fresh : H s.heap.objs.size = none := I.hok.fresh (Nat.le_refl _)
    have new : ObjOk X.prog X.w (upd H s.heap.objs.size (.tup [k, v])) h2 s.heap.objs.size (.tup [k, v]) :=
      ⟨by show 2 ≤ sizeLine; decide, [es[i].key, es[i].val], .cons rk (.cons rv .nil), ⟨_, here2, rfl, _, rfl⟩⟩
    have J := I.turnedNew (t' := s.toks) (h' := h2) (ch := [it]) (fun b o hb e => (but.2 b (by simpa using hb)).trans (kp b o (by simpa using hb) e)) hf (Nat.le_refl _) new
    refine ⟨.ref s.heap.objs.size, _, J, rfl, ⟨_, k, v, hkv, rfl, fresh, rfl⟩, ⟨_, _, back⟩, ?_⟩
    intro b hb
    obtain rfl : b = it := by simpa using hb
    rw [upd_ne (Nat.ne_of_lt lt)]
    exact (hf b (by simp)).1
  case done =>
    intro X hP hw hK hc i pins s σ H E I hf st hg
    subst hP hw hK
    obtain ⟨ok, ov, he⟩ := st
    obtain ⟨f0, f1, f2, f3, f4, f5⟩ := hf it (by simp)
    apply wpAny_pyNext_items_end_raw (I.ok.hd hc) he (raw_of I.kIn at_d) (by rw [← en.1]; exact hg)
    intro h' eb
    exact ⟨rfl, I.turned (t' := s.toks) (fun b o hb e => eb b o hb e) f0 f1 f3 f4 f5⟩
  case self =>
    rintro A i s Q E ⟨_, _, e⟩ h
    exact PySem.W.kcp_self e h
/-- for .. in d.items(), d a written dict of the module -/
def iItemsW (K : PySem.W.Frag) (td : TE) : TI := fun σ H R => td σ H fun x H1 => ∃ d es n kvs, x = .ref d ∧ K.lookup d = some ⟨.type "dict", none, .dict es n, #[]⟩ ∧ Entries es kvs ∧ (d == sysModules) = false ∧ R (ItW kvs) H1
theorem pi_itemsW {X : Cx} {e : Expr} {td : TE} {apos cpos : Pos} {elts : List Expr} {kk : Nat} {tpos : Pos} (he : PE X e td) (hbase : attributeBase e "items" X.env (eval e X.env) = eval e X.env := by rfl)
    (hline : (apos.endLine == cpos.line) = true := by rfl) : PI X (.Tuple elts kk tpos) (.Call (.Attribute e "items" apos) [] [] cpos) (iItemsW X.K td) := by
  constructor
  intro pins s σ H R I h
  apply wpAny_Call_method (T := "dict") (id := "dict.items") hbase rfl hline F.plainAttrs_dict F.slot_dict_items F.type_dict_items
  apply thn (he.run pins s σ H _ I h)
  rintro u s1 ⟨x, H1, I1, rx, d, es, n, kvs, rfl, at_d, en, low, q⟩
  obtain rfl : u = Value.ref d := rx
  have raw := raw_of I1.kIn at_d
  refine ⟨raw.typeIs, fun a z => ?_, ?_⟩
  · cases z
    exact ⟨_, I1.kIn _ _ at_d, rfl⟩
  have I2 : Inv X pins σ H1 { s1 with heap := s1.heap.push { cls := .type "dict_items", data := .fields #[.ref d] } } := I1.kept (t' := s1.toks) fun b o z => Heap.get?_push_of_some _ z
  have fin : wpAny (model X.prog X.w) X.A (pyIter (.ref s1.heap.objs.size)) (PIE X pins σ (.Tuple elts kk tpos) R) X.xe { s1 with heap := s1.heap.push { cls := .type "dict_items", data := .fields #[.ref d] } } :=
    wpAny_pyIter_items_raw (d := d) ⟨_, Heap.get?_push_size _ rfl, rfl, rfl⟩ (raw_of I2.kIn at_d)
      (pi_one (tk := s1.toks) I2 _ (turn_itemsW _ at_d en) ⟨.none, .none, Heap.get?_push_size _ rfl⟩ q)
  show wpAny _ _ (callWith cpos (.builtin "dict.items") [.ref d] [] []) _ X.xe s1
  exact method_meetsIn F.slot_dict_items F.entry_dict_items rfl (PySem.evalArgs_none ⟨rfl, raw.typeIs, F.args_dict_items_1 _, _, meets_dict_items_raw d low, ⟨_, _, raw⟩, fin⟩)
theorem for_itemsW {kvs : List (V × V)} {g : TG} {tb : TS} {D : Ends} {σ : L2.St} {H : Hp} (Pv : Nat → L2.St → Hp → Prop) (h0 : Pv 0 σ H)
    (hs : ∀ i k v σ H T, kvs[i]? = some (k, v) → Pv i σ H → H T = none → g (.ref T) σ (upd H T (.tup [k, v])) fun σ2 H2 => tb { D with nx := Pv (i + 1), ct := Pv (i + 1), bk := D.nx } σ2 H2) (hd : ∀ σ H, Pv kvs.length σ H → D.nx σ H) :
    ∃ W : Nat → Nat → L2.St → Hp → Prop, (∃ m, W 0 m σ H) ∧ ∀ i m σ H, W i m σ H →
      ((ItW kvs).stop i H ∧ D.nx σ H) ∨ ((ItW kvs).go i H ∧ ∃ N : L2.St → Hp → Prop, (∀ σ' H', N σ' H' → ∃ m', m' < m ∧ W (i + 1) m' σ' H') ∧ ∀ x H', (ItW kvs).yld i H x H' → g x σ H' fun σ2 H2 => tb { D with nx := N, ct := N, bk := D.nx } σ2 H2) := by
  refine ⟨fun i m σ H => i + m = kvs.length ∧ Pv i σ H, ⟨kvs.length, by omega, h0⟩, ?_⟩
  rintro i m σ H ⟨e, p⟩
  by_cases lt : i < kvs.length
  · refine Or.inr ⟨lt, Pv (i + 1), fun σ' H' q => ⟨m - 1, by omega, by omega, q⟩, ?_⟩
    rintro x H' ⟨T, k, v, hkv, rfl, nT, rfl⟩
    exact hs i k v σ H T hkv p nT
  · obtain rfl : i = kvs.length := by omega
    exact Or.inl ⟨Nat.le_refl _, hd σ H p⟩
end Pg

/-! Segments of a text: the mathematics. -/
namespace Pg
open PySem PySem.Spec PyProof.Rows L2

abbrev cd (z : Str) : List Nat := z.cps.toList
theorem cd_len (z : Str) : z.length = (cd z).length := by simp [Str.length]
theorem cd_inj {x y : Str} (h : cd x = cd y) : x = y := Str.ext' (Array.toList_inj.mp h)
theorem cd_app (x y : Str) : cd (x ++ y) = cd x ++ cd y := by
  show (x.cps ++ y.cps).toList = _
  rw [Array.toList_append]
/-- the signs from a to b -/
def sub (t : Str) (a b : Nat) : Str := ⟨(((cd t).drop a).take (b - a)).toArray⟩
theorem cd_sub (t : Str) (a b : Nat) : cd (sub t a b) = ((cd t).drop a).take (b - a) := rfl
theorem cut_sub (t : Str) (a b : Nat) : cutS t (some (a : Int)) (some (b : Int)) = sub t a b := by
  apply cd_inj
  unfold cutS
  rw [show HT.sIx t.length 0 (some (a : Int)) = min a t.length from HT.sIx_nat t.length 0 a, show HT.sIx t.length t.length (some (b : Int)) = min b t.length from HT.sIx_nat t.length t.length b, cd_len]
  show List.take (min b (cd t).length - min a (cd t).length) (List.drop (min a (cd t).length) (cd t)) = List.take (b - a) (List.drop a (cd t))
  by_cases h : a ≤ (cd t).length
  · rw [Nat.min_eq_left h, List.take_eq_take_iff, List.length_drop]
    omega
  · have h1 : (cd t).length ≤ a := by omega
    rw [Nat.min_eq_right h1, List.drop_of_length_le h1, List.drop_of_length_le (Nat.le_refl _), List.take_nil, List.take_nil]
theorem cut_from (t : Str) (a : Nat) : cutS t (some (a : Int)) none = sub t a t.length := by
  apply cd_inj
  unfold cutS
  rw [show HT.sIx t.length 0 (some (a : Int)) = min a t.length from HT.sIx_nat t.length 0 a, HT.sIx_none, cd_len]
  show List.take ((cd t).length - min a (cd t).length) (List.drop (min a (cd t).length) (cd t)) = List.take (t.length - a) (List.drop a (cd t))
  rw [cd_len]
  by_cases h : a ≤ (cd t).length
  · rw [Nat.min_eq_left h]
  · have h1 : (cd t).length ≤ a := by omega
    rw [Nat.min_eq_right h1, List.drop_of_length_le h1, List.drop_of_length_le (Nat.le_refl _), List.take_nil, List.take_nil]
theorem sub_len {t : Str} {a b : Nat} (h : b ≤ t.length) : (sub t a b).length = b - a := by
  rw [cd_len, cd_sub, List.length_take, List.length_drop, ← cd_len]
  omega
theorem sub_self (t : Str) (a : Nat) : sub t a a = ⟨#[]⟩ := by
  apply cd_inj
  rw [cd_sub, Nat.sub_self, List.take_zero]
theorem sub_full (t : Str) : sub t 0 t.length = t := by
  apply cd_inj
  rw [cd_sub, List.drop_zero, Nat.sub_zero, cd_len, List.take_length]
theorem sub_join {t : Str} {a b c : Nat} (h1 : a ≤ b) (h2 : b ≤ c) : sub t a b ++ sub t b c = sub t a c := by
  apply cd_inj
  rw [cd_app, cd_sub, cd_sub, cd_sub]
  have e : (cd t).drop b = ((cd t).drop a).drop (b - a) := by rw [List.drop_drop]; congr 1; omega
  rw [e]
  have e2 : c - a = (b - a) + (c - b) := by omega
  rw [e2, List.take_add]
theorem sub_one {t : Str} {a c : Nat} (h : (cd t)[a]? = some c) : sub t a (a + 1) = ⟨#[c]⟩ := by
  apply cd_inj
  rw [cd_sub]
  obtain ⟨lt, e⟩ := List.getElem?_eq_some_iff.mp h
  have e1 : a + 1 - a = 1 := by omega
  rw [e1, List.drop_eq_getElem_cons lt, e]
  rfl
/-- one sign there -/
theorem sub_is1 (t : Str) (a c : Nat) : sub t a (a + 1) = ⟨#[c]⟩ ↔ (cd t)[a]? = some c := by
  constructor
  · intro h
    have h2 := congrArg cd h
    rw [cd_sub, show a + 1 - a = 1 by omega] at h2
    cases e : (cd t)[a]? with
    | none =>
      rw [List.drop_of_length_le (List.getElem?_eq_none_iff.mp e)] at h2
      cases h2
    | some d =>
      obtain ⟨lt, e1⟩ := List.getElem?_eq_some_iff.mp e
      rw [List.drop_eq_getElem_cons lt, e1] at h2
      have h3 : [d] = [c] := h2
      rw [List.cons.inj h3 |>.1]
  · exact sub_one
theorem sub_is2 (t : Str) (a c d : Nat) : sub t a (a + 2) = ⟨#[c, d]⟩ ↔ (cd t)[a]? = some c ∧ (cd t)[a + 1]? = some d := by
  have j : sub t a (a + 1) ++ sub t (a + 1) (a + 2) = sub t a (a + 2) := sub_join (by omega) (by omega)
  constructor
  · intro h
    have h2 := congrArg cd h
    rw [cd_sub, show a + 2 - a = 2 by omega] at h2
    have h0 : ((cd t).drop a)[0]? = some c := by
      have : (List.take 2 ((cd t).drop a))[0]? = some c := by rw [h2]; rfl
      rw [List.getElem?_take_of_lt (by omega)] at this
      exact this
    have h1 : ((cd t).drop a)[1]? = some d := by
      have : (List.take 2 ((cd t).drop a))[1]? = some d := by rw [h2]; rfl
      rw [List.getElem?_take_of_lt (by omega)] at this
      exact this
    rw [List.getElem?_drop] at h0 h1
    exact ⟨h0, h1⟩
  · rintro ⟨h0, h1⟩
    rw [← j, sub_one h0, sub_one h1]
    rfl

/-- the first c from i on -/
def closeAt (t : Str) (c i : Nat) : Option Nat := if i + ((cd t).drop i).findIdx (· == c) < (cd t).length then some (i + ((cd t).drop i).findIdx (· == c)) else none
theorem close_some {t : Str} {c i k : Nat} (h1 : i ≤ k) (h2 : (cd t)[k]? = some c) (h3 : ∀ v, i ≤ v → v < k → (cd t)[v]? ≠ some c) : closeAt t c i = some k := by
  have hk : ((cd t).drop i)[k - i]? = some c := by rw [List.getElem?_drop]; rw [show i + (k - i) = k by omega]; exact h2
  obtain ⟨lt, e⟩ := List.getElem?_eq_some_iff.mp hk
  have lt2 : k < (cd t).length := (List.getElem?_eq_some_iff.mp h2).1
  have : ((cd t).drop i).findIdx (· == c) = k - i := by
    rw [List.findIdx_eq lt]
    refine ⟨by rw [e]; exact beq_self_eq_true c, fun j hj => ?_⟩
    have hjl : j < ((cd t).drop i).length := by omega
    rw [beq_eq_false_iff_ne]
    intro e2
    apply h3 (i + j) (by omega) (by omega)
    have h4 : ((cd t).drop i)[j]? = some c := by rw [List.getElem?_eq_getElem hjl, e2]
    rw [List.getElem?_drop] at h4
    exact h4
  unfold closeAt
  rw [this, if_pos (by omega)]
  congr 1
  omega
theorem close_is {t : Str} {c i k : Nat} (h : closeAt t c i = some k) : i ≤ k ∧ k < t.length ∧ (cd t)[k]? = some c ∧ ∀ v, i ≤ v → v < k → (cd t)[v]? ≠ some c := by
  unfold closeAt at h
  by_cases lt : i + ((cd t).drop i).findIdx (· == c) < (cd t).length
  · rw [if_pos lt] at h
    have hk2 : i + ((cd t).drop i).findIdx (· == c) = k := Option.some.inj h
    have lt3 : ((cd t).drop i).findIdx (· == c) < ((cd t).drop i).length := by rw [List.length_drop]; omega
    have e := List.findIdx_getElem (w := lt3)
    have at_k : ((cd t).drop i)[((cd t).drop i).findIdx (· == c)]? = some c := by rw [List.getElem?_eq_getElem lt3, eq_of_beq e]
    rw [List.getElem?_drop, hk2] at at_k
    refine ⟨by omega, by rw [cd_len]; omega, at_k, fun v hv1 hv2 hv3 => ?_⟩
    have hlt : v - i < ((cd t).drop i).findIdx (· == c) := by omega
    have := List.not_of_lt_findIdx hlt
    have h4 : ((cd t).drop i)[v - i]? = some c := by rw [List.getElem?_drop]; rw [show i + (v - i) = v by omega]; exact hv3
    obtain ⟨lt4, e4⟩ := List.getElem?_eq_some_iff.mp h4
    rw [e4] at this
    simp at this
  · rw [if_neg lt] at h
    cases h
theorem close_none {t : Str} {c i : Nat} (h : ∀ v, i ≤ v → (cd t)[v]? ≠ some c) : closeAt t c i = none := by
  cases e : closeAt t c i with
  | none => rfl
  | some k =>
    obtain ⟨h1, _, h2, _⟩ := close_is e
    exact absurd h2 (h k h1)
theorem close_free {t : Str} {c i : Nat} (h : closeAt t c i = none) : ∀ v, i ≤ v → (cd t)[v]? ≠ some c := by
  intro v h1 h2
  have fd : ∀ m k, k - i = m → i ≤ k → (cd t)[k]? = some c → False := by
    intro m
    induction m using Nat.strongRecOn with
    | _ m ih =>
      intro k hm hk1 hk2
      by_cases ex : ∀ v, i ≤ v → v < k → (cd t)[v]? ≠ some c
      · rw [close_some hk1 hk2 ex] at h
        cases h
      · have ⟨v, hv⟩ : ∃ v, ¬ (i ≤ v → v < k → (cd t)[v]? ≠ some c) := Classical.not_forall.mp ex
        have h1' : i ≤ v := Classical.byContradiction fun z => hv fun a => absurd a z
        have h2' : v < k := Classical.byContradiction fun z => hv fun _ b => absurd b z
        have h3' : (cd t)[v]? = some c := Classical.byContradiction fun z => hv fun _ _ => z
        exact ih (v - i) (by omega) v rfl h1' h3'
  exact fd _ v rfl h1 h2
/-- the sign at the start is another: one may begin behind it -/
theorem close_step {t : Str} {c i d : Nat} (h : (cd t)[i]? = some d) (ne : d ≠ c) : closeAt t c i = closeAt t c (i + 1) := by
  have skip : ∀ v, i ≤ v → (cd t)[v]? = some c → i + 1 ≤ v := fun v h1 h2 => by
    by_cases e : v = i
    · rw [e, h] at h2
      exact absurd (Option.some.inj h2) ne
    · omega
  cases e : closeAt t c (i + 1) with
  | none => exact close_none fun v h1 h2 => close_free e v (skip v h1 h2) h2
  | some k =>
    obtain ⟨h1, _, h2, h3⟩ := close_is e
    exact close_some (by omega) h2 fun v v1 v2 v3 => h3 v (skip v v1 v3) v2 v3
/-- str.find of one sign -/
theorem find_close (t : Str) (c i : Nat) : Txt.find3 t ⟨#[c]⟩ (i : Int) = match closeAt t c i with | some k => (k : Int) | none => -1 := by
  have fi : PySem.fromIndex t.length (i : Int) = i := by
    unfold PySem.fromIndex
    rw [if_neg (by omega)]
    omega
  have gd : ∀ v, v < t.length → ((cd t)[v]? = some c ↔ t.cps.getD v 0 = c) := by
    intro v hv
    constructor
    · intro h
      exact StrLaws.getD_of_getElem? h
    · intro h
      exact StrLaws.getElem?_of_getD hv h
  have big : ∀ v, (cd t)[v]? = some c → v < t.length := fun v h => by rw [cd_len]; exact (List.getElem?_eq_some_iff.mp h).1
  rcases StrLaws.find3_spec t c (i : Int) with ⟨h0, hn⟩ | ⟨k, h0, h1, h2, h3, h4⟩
  · rw [fi] at hn
    rw [close_none fun v hv hs => hn v hv (big v hs) ((gd v (big v hs)).mp hs), h0]
  · rw [fi] at h1 h4
    rw [close_some h1 ((gd k h2).mpr h3) fun v hv1 hv2 hs => h4 v hv1 hv2 ((gd v (big v hs)).mp hs), h0]
end Pg

/-! What splits a text. -/
namespace Pg
open PySem PySem.Spec PyProof.Rows L2
abbrev Seg := Str × Str
/-- the segment that is no text and begins at i: its kind, its name, the place behind it -/
def brk (N A : Str → Bool) (t : Str) (i : Nat) : Option (Str × Str × Nat) :=
  if (cd t)[i]? = some 91 then
    match closeAt t 93 (i + 1) with
    | some e => if N (sub t (i + 1) e) = true then some ("link", sub t (i + 1) e, e + 1) else none
    | none => none
  else if (cd t)[i]? = some 60 then
    match closeAt t 62 (i + 1) with
    | some e =>
      if (cd t)[i + 1]? = some 64 then (if (N (sub t (i + 2) e) && A (sub t (i + 2) e)) = true then some ("indirect", sub t (i + 2) e, e + 1) else none)
      else (if (N (sub t (i + 1) e) && A (sub t (i + 1) e)) = true then some ("include", sub t (i + 1) e, e + 1) else none)
    | none => none
  else none
/-- a segment's own text -/
def textOf (s : Seg) : Str := if s.1 = "text" then s.2 else if s.1 = "include" then "<" ++ s.2 ++ ">" else if s.1 = "indirect" then "<@" ++ s.2 ++ ">" else "[" ++ s.2 ++ "]"
theorem text_link (z : Str) : textOf ("link", z) = "[" ++ z ++ "]" := by
  unfold textOf
  rw [if_neg (show ¬ (("link" : Str) = "text") by decide +kernel), if_neg (show ¬ (("link" : Str) = "include") by decide +kernel), if_neg (show ¬ (("link" : Str) = "indirect") by decide +kernel)]
theorem text_ind (z : Str) : textOf ("indirect", z) = "<@" ++ z ++ ">" := by
  unfold textOf
  rw [if_neg (show ¬ (("indirect" : Str) = "text") by decide +kernel), if_neg (show ¬ (("indirect" : Str) = "include") by decide +kernel), if_pos rfl]
theorem text_inc (z : Str) : textOf ("include", z) = "<" ++ z ++ ">" := by
  unfold textOf
  rw [if_neg (show ¬ (("include" : Str) = "text") by decide +kernel), if_pos rfl]
theorem s60 : ("<" : Str) = ⟨#[60]⟩ := by decide +kernel
theorem s62 : (">" : Str) = ⟨#[62]⟩ := by decide +kernel
theorem s91 : ("[" : Str) = ⟨#[91]⟩ := by decide +kernel
theorem s93 : ("]" : Str) = ⟨#[93]⟩ := by decide +kernel
theorem s6064 : ("<@" : Str) = ⟨#[60, 64]⟩ := by decide +kernel
theorem s0 : ("" : Str) = ⟨#[]⟩ := by decide +kernel
theorem wrap1 {t : Str} {i e : Nat} {b c : Nat} (h1 : i + 1 ≤ e) (hb : (cd t)[i]? = some b) (hc : (cd t)[e]? = some c) : (⟨#[b]⟩ : Str) ++ sub t (i + 1) e ++ ⟨#[c]⟩ = sub t i (e + 1) := by
  rw [← sub_one hb, ← sub_one hc, sub_join (by omega) h1, sub_join (by omega) (by omega)]
theorem wrap2 {t : Str} {i e : Nat} {b d c : Nat} (h1 : i + 2 ≤ e) (hb : (cd t)[i]? = some b) (hd : (cd t)[i + 1]? = some d) (hc : (cd t)[e]? = some c) : (⟨#[b, d]⟩ : Str) ++ sub t (i + 2) e ++ ⟨#[c]⟩ = sub t i (e + 1) := by
  rw [← (sub_is2 t i b d).mpr ⟨hb, hd⟩, ← sub_one hc, sub_join (by omega) h1, sub_join (by omega) (by omega)]
def kinds : List Str := ["include", "indirect", "link"]
theorem kinds_no : ∀ k ∈ kinds, k ≠ "text" := by decide +kernel
theorem brk_is {N A : Str → Bool} {t k z : Str} {i e : Nat} (h : brk N A t i = some (k, z, e)) : i < e ∧ e ≤ t.length ∧ textOf (k, z) = sub t i e ∧ k ∈ kinds ∧ z.length ≤ t.length := by
  unfold brk at h
  by_cases h1 : (cd t)[i]? = some 91
  · rw [if_pos h1] at h
    split at h
    · rename_i e0 he
      obtain ⟨c1, c2, c3, _⟩ := close_is he
      split at h
      · cases h
        refine ⟨by omega, by omega, ?_, by decide +kernel, by rw [sub_len (by omega)]; omega⟩
        rw [← wrap1 c1 h1 c3, ← s91, ← s93, text_link]
      · cases h
    · cases h
  · rw [if_neg h1] at h
    by_cases h2 : (cd t)[i]? = some 60
    · rw [if_pos h2] at h
      split at h
      · rename_i e0 he
        obtain ⟨c1, c2, c3, c4⟩ := close_is he
        by_cases h3 : (cd t)[i + 1]? = some 64
        · rw [if_pos h3] at h
          split at h
          · cases h
            have c1' : i + 2 ≤ e0 := by
              by_cases e : e0 = i + 1
              · subst e
                rw [h3] at c3
                cases c3
              · omega
            refine ⟨by omega, by omega, ?_, by decide +kernel, by rw [sub_len (by omega)]; omega⟩
            rw [← wrap2 c1' h2 h3 c3, ← s6064, ← s62, text_ind]
          · cases h
        · rw [if_neg h3] at h
          split at h
          · cases h
            refine ⟨by omega, by omega, ?_, by decide +kernel, by rw [sub_len (by omega)]; omega⟩
            rw [← wrap1 c1 h2 c3, ← s60, ← s62, text_inc]
          · cases h
      · cases h
    · rw [if_neg h2] at h
      cases h
/-- plain signs as a segment, or none -/
def plain (z : Str) : List Seg := if z = ⟨#[]⟩ then [] else [("text", z)]
/-- the segments, when all before `done` is told and i is reached -/
def segs (N A : Str → Bool) (t : Str) (done i : Nat) : List Seg :=
  if i < t.length then
    match brk N A t i with
    | none => segs N A t done (i + 1)
    | some (k, z, e) => if i < e then plain (sub t done i) ++ ((k, z) :: segs N A t e e) else []
  else plain (sub t done t.length)
termination_by t.length - i
theorem segs_end {N A : Str → Bool} {t : Str} {done i : Nat} (h : ¬ i < t.length) : segs N A t done i = plain (sub t done t.length) := by
  rw [segs, if_neg h]
theorem segs_none {N A : Str → Bool} {t : Str} {done i : Nat} (h : i < t.length) (b : brk N A t i = none) : segs N A t done i = segs N A t done (i + 1) := by
  rw [segs, if_pos h, b]
theorem segs_some {N A : Str → Bool} {t k z : Str} {done i e : Nat} (h : i < t.length) (b : brk N A t i = some (k, z, e)) : segs N A t done i = plain (sub t done i) ++ ((k, z) :: segs N A t e e) := by
  rw [segs, if_pos h, b]
  simp only
  rw [if_pos (brk_is b).1]
/-- texts one behind another -/
def glue : List Str → Str
  | [] => ⟨#[]⟩
  | x :: r => x ++ glue r
theorem glue_app : ∀ a b : List Str, glue (a ++ b) = glue a ++ glue b
  | [], b => by
    apply cd_inj
    rw [cd_app]
    rfl
  | x :: a, b => by
    show x ++ glue (a ++ b) = x ++ glue a ++ glue b
    rw [glue_app a b]
    apply cd_inj
    simp only [cd_app, List.append_assoc]
theorem glue_plain (z : Str) : glue ((plain z).map textOf) = z := by
  unfold plain
  split
  · rename_i e
    rw [e]
    rfl
  · apply cd_inj
    show cd (textOf ("text", z) ++ ⟨#[]⟩) = _
    rw [cd_app]
    unfold textOf
    rw [if_pos rfl]
    simp
theorem glue_segs (N A : Str → Bool) (t : Str) : ∀ (m done i : Nat), t.length - i = m → done ≤ i → i ≤ t.length → glue ((segs N A t done i).map textOf) = sub t done t.length := by
  intro m
  induction m using Nat.strongRecOn with
  | _ m ih =>
    intro done i hm h1 h2
    by_cases lt : i < t.length
    · cases b : brk N A t i with
      | none =>
        rw [segs_none lt b]
        exact ih (t.length - (i + 1)) (by omega) done (i + 1) rfl (by omega) (by omega)
      | some r =>
        obtain ⟨k, z, e⟩ := r
        obtain ⟨b1, b2, b3, _⟩ := brk_is b
        rw [segs_some lt b, List.map_append, glue_app, glue_plain, List.map_cons]
        show sub t done i ++ (textOf (k, z) ++ glue ((segs N A t e e).map textOf)) = _
        rw [ih (t.length - e) (by omega) e e rfl (Nat.le_refl _) b2, b3, sub_join (by omega) b2, sub_join h1 (by omega)]
    · rw [segs_end lt, glue_plain]
theorem glue_all (N A : Str → Bool) (t : Str) : glue ((segs N A t 0 0).map textOf) = t := by
  rw [glue_segs N A t t.length 0 0 rfl (Nat.le_refl _) (Nat.zero_le _), sub_full]
def noText : Seg := (("text" : Str), (⟨#[]⟩ : Str))
/-- no empty text, no text beside another one -/
def okL : List Seg → Prop
  | [] => True
  | s :: r => s ≠ noText ∧ (∀ s', r.head? = some s' → ¬ (s.1 = "text" ∧ s'.1 = "text")) ∧ okL r
theorem okL_plain {z : Str} {r : List Seg} (h : okL r) (no : ∀ s, r.head? = some s → s.1 ≠ "text") : okL (plain z ++ r) := by
  unfold plain
  split
  · exact h
  · rename_i e
    exact ⟨fun q => e (Prod.mk.inj q).2, fun s' hs q => no s' hs q.2, h⟩
theorem okL_segs (N A : Str → Bool) (t : Str) : ∀ (m done i : Nat), t.length - i = m → i ≤ t.length → okL (segs N A t done i) := by
  intro m
  induction m using Nat.strongRecOn with
  | _ m ih =>
    intro done i hm h2
    by_cases lt : i < t.length
    · cases b : brk N A t i with
      | none =>
        rw [segs_none lt b]
        exact ih (t.length - (i + 1)) (by omega) done (i + 1) rfl (by omega)
      | some r =>
        obtain ⟨k, z, e⟩ := r
        obtain ⟨b1, b2, b3, b4, _⟩ := brk_is b
        have kn := kinds_no k b4
        rw [segs_some lt b]
        apply okL_plain
        · refine ⟨fun q => kn (Prod.mk.inj q).1, fun s' _ q => kn q.1, ih (t.length - e) (by omega) e e rfl b2⟩
        · intro s hs
          cases hs
          exact kn
    · rw [segs_end lt]
      have : plain (sub t done t.length) = plain (sub t done t.length) ++ [] := (List.append_nil _).symm
      rw [this]
      exact okL_plain trivial (fun s hs => by cases hs)
theorem okL_get : ∀ {l : List Seg} {i : Nat} {s : Seg}, okL l → l[i]? = some s → s ≠ noText ∧ ∀ j r, i = j + 1 → l[j]? = some r → ¬ (s.1 = "text" ∧ r.1 = "text")
  | [], _, _, _, h => by simp at h
  | x :: l, 0, s, ok, h => by
    obtain rfl : x = s := Option.some.inj h
    exact ⟨ok.1, fun j r e => by omega⟩
  | x :: l, i + 1, s, ok, h => by
    have h' : l[i]? = some s := by simpa using h
    obtain ⟨a, b⟩ := okL_get ok.2.2 h'
    refine ⟨a, fun j r e hr => ?_⟩
    obtain rfl : i = j := by omega
    cases i with
    | zero =>
      obtain rfl : x = r := by simpa using hr
      have hd : l.head? = some s := by rw [List.head?_eq_getElem?]; exact h'
      exact fun q => ok.2.1 s hd ⟨q.2, q.1⟩
    | succ i =>
      have hr' : l[i]? = some r := by simpa using hr
      exact b i r rfl hr'
theorem segs_few (N A : Str → Bool) (t : Str) : ∀ (m done i : Nat), t.length - i = m → i ≤ t.length → (segs N A t done i).length ≤ 2 * (t.length - i) + 1 := by
  intro m
  have pl : ∀ z : Str, (plain z).length ≤ 1 := fun z => by unfold plain; split <;> simp
  induction m using Nat.strongRecOn with
  | _ m ih =>
    intro done i hm h2
    by_cases lt : i < t.length
    · cases b : brk N A t i with
      | none =>
        rw [segs_none lt b]
        have := ih (t.length - (i + 1)) (by omega) done (i + 1) rfl (by omega)
        omega
      | some r =>
        obtain ⟨k, z, e⟩ := r
        obtain ⟨b1, b2, _⟩ := brk_is b
        rw [segs_some lt b, List.length_append, List.length_cons]
        have h1 := pl (sub t done i)
        have h2 := ih (t.length - e) (by omega) e e rfl b2
        omega
    · rw [segs_end lt]
      have := pl (sub t done t.length)
      omega
end Pg
namespace Pg
open PySem PySem.Spec PyProof.Rows L2
/-- one kind, tried at i -/
def tryK (N A : Str → Bool) (t : Str) (i : Nat) (k b : Str) (c : Nat) : Option (Str × Str × Nat) :=
  if sub t i (i + b.length) = b then
    match closeAt t c (i + b.length) with
    | some e => if (N (sub t (i + b.length) e) && (decide (k = "link") || A (sub t (i + b.length) e))) = true then some (k, sub t (i + b.length) e, e + 1) else none
    | none => none
  else none
theorem brk_try {N A : Str → Bool} {t : Str} {i : Nat} (hN : ∀ z, N z = true → 64 ∉ cd z) :
    brk N A t i = ((tryK N A t i "include" "<" 62).or ((tryK N A t i "indirect" "<@" 62).or (tryK N A t i "link" "[" 93))) := by
  have l1 : ("<" : Str).length = 1 := rfl
  have l2 : ("<@" : Str).length = 2 := rfl
  have l3 : ("[" : Str).length = 1 := rfl
  have k1 : decide (("include" : Str) = "link") = false := by decide +kernel
  have k2 : decide (("indirect" : Str) = "link") = false := by decide +kernel
  have k3 : decide (("link" : Str) = "link") = true := decide_eq_true rfl
  unfold brk tryK
  rw [l1, l2, l3, k1, k2, k3]
  simp only [s60, s6064, s91, sub_is1, sub_is2, Bool.false_or, Bool.true_or, Bool.and_true]
  by_cases h1 : (cd t)[i]? = some 91
  · have n60 : ¬ (cd t)[i]? = some 60 := by rw [h1]; simp
    rw [if_pos h1, if_neg n60, if_neg (fun z => n60 z.1), if_pos h1]
    rfl
  · rw [if_neg h1]
    by_cases h2 : (cd t)[i]? = some 60
    · rw [if_pos h2, if_pos h2, if_neg h1]
      by_cases h3 : (cd t)[i + 1]? = some 64
      · rw [if_pos ⟨h2, h3⟩]
        have cs : closeAt t 62 (i + 1) = closeAt t 62 (i + 2) := close_step h3 (by decide)
        rw [← cs]
        cases e : closeAt t 62 (i + 1) with
        | none => rfl
        | some k =>
          obtain ⟨c1, c2, c3, _⟩ := close_is e
          have no : N (sub t (i + 1) k) = false := by
            cases q : N (sub t (i + 1) k) with
            | false => rfl
            | true =>
              exfalso
              apply hN _ q
              have lt : i + 1 < k := by
                by_cases z : k = i + 1
                · subst z
                  rw [h3] at c3
                  cases c3
                · omega
              have : (cd (sub t (i + 1) k))[0]? = some 64 := by
                rw [cd_sub, List.getElem?_take_of_lt (by omega), List.getElem?_drop]
                exact h3
              exact List.mem_of_getElem? this
          simp only [h3, no, if_true, Bool.false_and, Bool.false_eq_true, if_false, Option.none_or, Option.or_none]
      · rw [if_neg (fun z => h3 z.2)]
        cases e : closeAt t 62 (i + 1) with
        | none => rfl
        | some k => simp only [h3, if_false, Option.or_none]
    · rw [if_neg h2, if_neg h2, if_neg (fun z => h2 z.1), if_neg h1]
      rfl
theorem segs_kinds (N A : Str → Bool) (t : Str) : ∀ (m done i : Nat), t.length - i = m → done ≤ i → i ≤ t.length → ∀ s ∈ segs N A t done i, (s.1 = "text" ∨ s.1 ∈ kinds) ∧ s.2.length ≤ t.length := by
  intro m
  have pl : ∀ a b : Nat, b ≤ t.length → ∀ s ∈ plain (sub t a b), (s.1 = "text" ∨ s.1 ∈ kinds) ∧ s.2.length ≤ t.length := by
    intro a b hb s hs
    unfold plain at hs
    split at hs
    · cases hs
    · rw [List.mem_singleton.mp hs]
      exact ⟨Or.inl rfl, by show (sub t a b).length ≤ _; rw [sub_len hb]; omega⟩
  induction m using Nat.strongRecOn with
  | _ m ih =>
    intro done i hm h1 h2 s hs
    by_cases lt : i < t.length
    · cases b : brk N A t i with
      | none =>
        rw [segs_none lt b] at hs
        exact ih (t.length - (i + 1)) (by omega) done (i + 1) rfl (by omega) (by omega) s hs
      | some r =>
        obtain ⟨k, z, e⟩ := r
        obtain ⟨b1, b2, _, b4, b5⟩ := brk_is b
        rw [segs_some lt b] at hs
        rcases List.mem_append.mp hs with h | h
        · exact pl done i h2 s h
        · rcases List.mem_cons.mp h with h | h
          · rw [h]
            exact ⟨Or.inr b4, b5⟩
          · exact ih (t.length - e) (by omega) e e rfl (Nat.le_refl _) b2 s h
    · rw [segs_end lt] at hs
      exact pl done t.length (Nat.le_refl _) s hs
end Pg
namespace Pg
open PySem PySem.Spec PyProof.Rows L2
/-- signs that there are -/
def Codes (z : Str) : Prop := ∀ c ∈ cd z, c < 1114112
theorem Codes.ok {z : Str} (h : Codes z) : PyData.strOk z = true := by
  unfold PyData.strOk
  rw [← Array.all_toList, List.all_eq_true]
  intro c hc
  exact decide_eq_true (h c hc)
theorem Codes.sub {t : Str} (h : Codes t) (a b : Nat) : Codes (sub t a b) := fun c hc => h c (List.mem_of_mem_drop (List.mem_of_mem_take hc))
theorem kinds_codes : ∀ k ∈ (("text" : Str) :: kinds), k.cps.toList.all (fun c => decide (c < 127)) = true ∧ k.length ≤ 8 := by decide +kernel
theorem kind_codes {k : Str} (h : k = "text" ∨ k ∈ kinds) : Codes k := fun c hc => by
  have m : k ∈ (("text" : Str) :: kinds) := by
    rcases h with h | h
    · rw [h]; exact List.mem_cons_self
    · exact List.mem_cons_of_mem _ h
  have := of_decide_eq_true (List.all_eq_true.mp (kinds_codes k m).1 c hc)
  omega
/-- a segment of a text: its kind, its signs -/
def Fine (t : Str) (s : Seg) : Prop := (s.1 = "text" ∨ s.1 ∈ kinds) ∧ s.2.length ≤ t.length ∧ ∀ c ∈ cd s.2, c ∈ cd t
theorem plain_fine {t : Str} {a b : Nat} (hb : b ≤ t.length) : ∀ s ∈ plain (sub t a b), Fine t s := by
  intro s hs
  unfold plain at hs
  split at hs
  · cases hs
  · rw [List.mem_singleton.mp hs]
    exact ⟨Or.inl rfl, by show (sub t a b).length ≤ _; rw [sub_len hb]; omega, fun c hc => List.mem_of_mem_drop (List.mem_of_mem_take hc)⟩
theorem brk_part {N A : Str → Bool} {t k z : Str} {i e : Nat} (h : brk N A t i = some (k, z, e)) : ∀ c ∈ cd z, c ∈ cd t := by
  have sb : ∀ a b, ∀ c ∈ cd (sub t a b), c ∈ cd t := fun a b c hc => List.mem_of_mem_drop (List.mem_of_mem_take hc)
  unfold brk at h
  repeat' split at h
  all_goals first
    | (cases h; done)
    | (cases h; exact sb _ _)
theorem segs_fine (N A : Str → Bool) (t : Str) : ∀ (m done i : Nat), t.length - i = m → done ≤ i → i ≤ t.length → ∀ s ∈ segs N A t done i, Fine t s := by
  intro m
  induction m using Nat.strongRecOn with
  | _ m ih =>
    intro done i hm h1 h2 s hs
    by_cases lt : i < t.length
    · cases b : brk N A t i with
      | none =>
        rw [segs_none lt b] at hs
        exact ih (t.length - (i + 1)) (by omega) done (i + 1) rfl (by omega) (by omega) s hs
      | some r =>
        obtain ⟨k, z, e⟩ := r
        obtain ⟨b1, b2, _, b4, b5⟩ := brk_is b
        rw [segs_some lt b] at hs
        rcases List.mem_append.mp hs with h | h
        · exact plain_fine h2 s h
        · rcases List.mem_cons.mp h with h | h
          · rw [h]
            exact ⟨Or.inr b4, b5, brk_part b⟩
          · exact ih (t.length - e) (by omega) e e rfl (Nat.le_refl _) b2 s h
    · rw [segs_end lt] at hs
      exact plain_fine (Nat.le_refl _) s hs
end Pg
namespace Pg
open PySem PySem.Spec PyProof.Rows L2
theorem brk_after {N A : Str → Bool} {t k z : Str} {i e : Nat} (h : brk N A t i = some (k, z, e)) : (k = "link" ∧ N z = true) ∨ ((k = "include" ∨ k = "indirect") ∧ N z = true ∧ A z = true) := by
  unfold brk at h
  repeat' split at h
  all_goals first
    | (cases h; done)
    | (rename_i q; cases h; exact .inl ⟨rfl, q⟩)
    | (rename_i q; cases h; obtain ⟨q1, q2⟩ := Bool.and_eq_true_iff.mp q; exact .inr ⟨.inl rfl, q1, q2⟩)
    | (rename_i q; cases h; obtain ⟨q1, q2⟩ := Bool.and_eq_true_iff.mp q; exact .inr ⟨.inr rfl, q1, q2⟩)
theorem plain_kind {z : Str} : ∀ s ∈ plain z, s.1 = "text" := by
  intro s hs
  unfold plain at hs
  split at hs
  · cases hs
  · rw [List.mem_singleton.mp hs]
theorem segs_after (N A : Str → Bool) (t : Str) : ∀ (m done i : Nat), t.length - i = m → i ≤ t.length → ∀ s ∈ segs N A t done i, s.1 = "text" ∨ (s.1 = "link" ∧ N s.2 = true) ∨ ((s.1 = "include" ∨ s.1 = "indirect") ∧ N s.2 = true ∧ A s.2 = true) := by
  intro m
  induction m using Nat.strongRecOn with
  | _ m ih =>
    intro done i hm h2 s hs
    by_cases lt : i < t.length
    · cases b : brk N A t i with
      | none =>
        rw [segs_none lt b] at hs
        exact ih (t.length - (i + 1)) (by omega) done (i + 1) rfl (by omega) s hs
      | some r =>
        obtain ⟨k, z, e⟩ := r
        obtain ⟨b1, b2, _⟩ := brk_is b
        rw [segs_some lt b] at hs
        rcases List.mem_append.mp hs with h | h
        · exact .inl (plain_kind s h)
        · rcases List.mem_cons.mp h with h | h
          · rw [h]
            exact .inr (brk_after b)
          · exact ih (t.length - e) (by omega) e e rfl b2 s h
    · rw [segs_end lt] at hs
      exact .inl (plain_kind s hs)
end Pg

/-! Dicts with texts as keys, as rows of pairs. -/
namespace Pg
open PySem PySem.Spec PyProof.Rows L2
section
variable {β : Type}
/-- the row of pairs as the dict's own -/
def enc (f : β → V) (kvs : List (Str × β)) : List (Key × V) := kvs.map fun p => (Sum.inr p.1, f p.2)
def getS : List (Str × β) → Str → Option β
  | [], _ => none
  | p :: r, k => if p.1 = k then some p.2 else getS r k
/-- in its place, or at the end -/
def putS : List (Str × β) → Str → β → List (Str × β)
  | [], k, v => [(k, v)]
  | p :: r, k, v => if p.1 = k then (p.1, v) :: r.map (fun q => if q.1 = k then (q.1, v) else q) else p :: putS r k v
theorem valV_enc (f : β → V) : ∀ (kvs : List (Str × β)) (k : Str), valV (enc f kvs) (Sum.inr k) = (getS kvs k).map f
  | [], k => rfl
  | p :: r, k => by
    by_cases e : p.1 = k
    · rw [show enc f (p :: r) = (Sum.inr p.1, f p.2) :: enc f r from rfl, valV_pos (by rw [e]), getS, if_pos e]
      rfl
    · rw [show enc f (p :: r) = (Sum.inr p.1, f p.2) :: enc f r from rfl, valV_neg (fun h => e (Sum.inr.inj h)), getS, if_neg e]
      exact valV_enc f r k
theorem any_enc (f : β → V) : ∀ (kvs : List (Str × β)) (k : Str), ((enc f kvs).any fun kv => decide (kv.1 = Sum.inr k)) = (getS kvs k).isSome
  | [], k => rfl
  | p :: r, k => by
    rw [show enc f (p :: r) = (Sum.inr p.1, f p.2) :: enc f r from rfl, List.any_cons, getS]
    by_cases e : p.1 = k
    · rw [if_pos e, decide_eq_true (by rw [e]), Bool.true_or]
      rfl
    · rw [if_neg e, decide_eq_false (fun h => e (Sum.inr.inj h)), Bool.false_or]
      exact any_enc f r k
theorem map_enc (f : β → V) (k : Str) (v : β) : ∀ kvs : List (Str × β), (enc f kvs).map (fun kv => if kv.1 = Sum.inr k then (kv.1, f v) else kv) = enc f (kvs.map fun q => if q.1 = k then (q.1, v) else q)
  | [] => rfl
  | p :: r => by
    have ih := map_enc f k v r
    show (if (Sum.inr p.1 : Key) = Sum.inr k then ((Sum.inr p.1 : Key), f v) else (Sum.inr p.1, f p.2)) :: (enc f r).map _ = (Sum.inr (if p.1 = k then (p.1, v) else p).1, f (if p.1 = k then (p.1, v) else p).2) :: enc f (r.map _)
    rw [ih]
    by_cases e : p.1 = k
    · rw [if_pos e, if_pos (by rw [e])]
    · rw [if_neg e, if_neg (fun h => e (Sum.inr.inj h))]
theorem putS_has : ∀ {kvs : List (Str × β)} {k : Str} {v : β}, (getS kvs k).isSome = true → putS kvs k v = kvs.map (fun q => if q.1 = k then (q.1, v) else q)
  | [], k, v, h => by cases h
  | p :: r, k, v, h => by
    unfold putS
    by_cases e : p.1 = k
    · rw [if_pos e, List.map_cons, if_pos e]
    · rw [getS, if_neg e] at h
      rw [if_neg e, putS_has h, List.map_cons, if_neg e]
theorem putS_new : ∀ {kvs : List (Str × β)} {k : Str} {v : β}, (getS kvs k).isSome = false → putS kvs k v = kvs ++ [(k, v)]
  | [], k, v, h => rfl
  | p :: r, k, v, h => by
    unfold putS
    by_cases e : p.1 = k
    · rw [getS, if_pos e] at h
      cases h
    · rw [getS, if_neg e] at h
      rw [if_neg e, putS_new h]
      rfl
theorem putK_enc (f : β → V) (kvs : List (Str × β)) (k : Str) (v : β) : putK (enc f kvs) (Sum.inr k) (f v) = enc f (putS kvs k v) := by
  unfold putK
  rw [any_enc]
  cases e : (getS kvs k).isSome with
  | true => rw [if_pos rfl, putS_has e, map_enc]
  | false =>
    rw [if_neg Bool.false_ne_true, putS_new e]
    unfold enc
    rw [List.map_append]
    rfl
theorem keys_put : ∀ (kvs : List (Str × β)) (k : Str) (v : β), (putS kvs k v).map (·.1) = if (getS kvs k).isSome = true then kvs.map (·.1) else kvs.map (·.1) ++ [k] := by
  intro kvs k v
  cases e : (getS kvs k).isSome with
  | true =>
    rw [if_pos rfl, putS_has e, List.map_map]
    refine List.map_congr_left fun p _ => ?_
    show (if p.1 = k then (p.1, v) else p).1 = p.1
    split <;> rfl
  | false =>
    rw [if_neg Bool.false_ne_true, putS_new e, List.map_append]
    rfl
theorem get_some : ∀ {kvs : List (Str × β)} {k : Str} {v : β}, getS kvs k = some v → (k, v) ∈ kvs
  | [], k, v, h => by cases h
  | p :: r, k, v, h => by
    rw [getS] at h
    by_cases e : p.1 = k
    · rw [if_pos e] at h
      obtain rfl := Option.some.inj h
      rw [← e]
      exact List.mem_cons_self
    · rw [if_neg e] at h
      exact List.mem_cons_of_mem _ (get_some h)
theorem get_none : ∀ {kvs : List (Str × β)} {k : Str}, getS kvs k = none ↔ k ∉ kvs.map (·.1)
  | [], k => ⟨fun _ h => (by cases h), fun _ => rfl⟩
  | p :: r, k => by
    rw [getS, List.map_cons, List.mem_cons]
    by_cases e : p.1 = k
    · rw [if_pos e]
      exact ⟨fun h => (by cases h), fun h => absurd (Or.inl e.symm) h⟩
    · rw [if_neg e, get_none]
      exact ⟨fun h z => z.elim (fun q => e q.symm) h, fun h z => h (Or.inr z)⟩
theorem nodup_put {kvs : List (Str × β)} (k : Str) (v : β) (h : (kvs.map (·.1)).Nodup) : ((putS kvs k v).map (·.1)).Nodup := by
  rw [keys_put]
  split
  · exact h
  · rename_i e
    have n : getS kvs k = none := by
      cases q : getS kvs k with
      | none => rfl
      | some _ => rw [q] at e; exact absurd rfl e
    have nin := get_none.mp n
    rw [List.nodup_append]
    exact ⟨h, by simp, fun a ha c hc => by rw [List.mem_singleton.mp hc]; rintro rfl; exact nin ha⟩
theorem mem_put {kvs : List (Str × β)} {k : Str} {v : β} {p : Str × β} (h : p ∈ putS kvs k v) : p = (k, v) ∨ p ∈ kvs := by
  cases e : (getS kvs k).isSome with
  | true =>
    rw [putS_has e] at h
    obtain ⟨q, hq, rfl⟩ := List.mem_map.mp h
    by_cases z : q.1 = k
    · rw [if_pos z, z]
      exact Or.inl rfl
    · rw [if_neg z]
      exact Or.inr hq
  | false =>
    rw [putS_new e] at h
    rcases List.mem_append.mp h with h | h
    · exact Or.inr h
    · exact Or.inl (List.mem_singleton.mp h)
theorem get_put {kvs : List (Str × β)} {k j : Str} {v : β} : getS (putS kvs k v) j = if j = k then some v else getS kvs j := by
  induction kvs with
  | nil =>
    show (if k = j then some v else none) = _
    by_cases e : j = k
    · rw [if_pos e, if_pos e.symm]
    · rw [if_neg e, if_neg (fun h => e h.symm)]
      rfl
  | cons p r ih =>
    unfold putS
    by_cases e : p.1 = k
    · rw [if_pos e]
      by_cases z : j = k
      · rw [if_pos z, getS, if_pos (by rw [z]; exact e)]
      · rw [if_neg z, getS, getS, if_neg (by rw [e]; exact fun h => z h.symm), if_neg (by rw [e]; exact fun h => z h.symm)]
        have mp : ∀ l : List (Str × β), getS (l.map fun q => if q.1 = k then (q.1, v) else q) j = getS l j := by
          intro l
          induction l with
          | nil => rfl
          | cons q l il =>
            rw [List.map_cons, getS, getS, il]
            by_cases w : q.1 = k
            · rw [if_pos w, if_neg (by show ¬ q.1 = j; rw [w]; exact fun h => z h.symm), if_neg (by rw [w]; exact fun h => z h.symm)]
            · rw [if_neg w]
        exact mp r
    · rw [if_neg e, getS, getS, ih]
      by_cases z : p.1 = j
      · rw [if_pos z, if_pos z, if_neg (by rw [← z]; exact e)]
      · rw [if_neg z, if_neg z]
theorem len_put (kvs : List (Str × β)) (k : Str) (v : β) : (putS kvs k v).length ≤ kvs.length + 1 := by
  cases e : (getS kvs k).isSome with
  | true => rw [putS_has e, List.length_map]; omega
  | false => rw [putS_new e, List.length_append]; exact Nat.le_refl _
end
/-- some different texts out of a row are no more than the row -/
theorem few_of : ∀ {xs ys : List Str}, xs.Nodup → (∀ x ∈ xs, x ∈ ys) → xs.length ≤ ys.length
  | [], _, _, _ => Nat.zero_le _
  | x :: r, ys, nd, h => by
    obtain ⟨nx, nr⟩ := List.nodup_cons.mp nd
    have mx := h x List.mem_cons_self
    have ih := few_of (ys := ys.erase x) nr fun y hy => (List.mem_erase_of_ne (by rintro rfl; exact nx hy)).mpr (h y (List.mem_cons_of_mem _ hy))
    rw [List.length_erase_of_mem mx] at ih
    have : 0 < ys.length := List.length_pos_of_mem mx
    rw [List.length_cons]
    omega
end Pg

/-! Texts in their order: sorted of any number, and rows that rise. -/
namespace Pg
open PySem PySem.Spec PyProof.Rows L2
section
variable {X : Cx}
/-- sorted(l), l a row of texts of any length: the same texts, in order, in a new row -/
def rSortedSA (K : PySem.W.Frag) : List V → Hp → VK → Prop := fun args H Q =>
  ∃ (l : Addr) (texts : List Str), args = [.ref l] ∧ SqL K H l (texts.map V.str) ∧
    ∀ (inOrder : List Str) (new : Addr), inOrder.Perm texts → sortedS inOrder = true → H new = none →
      Q (.ref new) (upd H new (.lst (inOrder.map V.str)))
theorem cr_sortedSA : CallR X (.builtin "sorted") (rSortedSA X.K) := by
  rintro pins s σ H args vals Q I rel ⟨l, texts, rfl, at_l, want⟩
  obtain ⟨items, same, isl, small⟩ := I.list at_l
  rw [Vals.ref1 rel]
  have size := same.length
  apply PyProof.Rows.sorted_strsAny isl.isList same.strs (by rw [← size]; exact small)
  intro out inOrder areTexts perm order
  obtain ⟨extra, made⟩ := PyProof.Rows.sortedAll_at s.heap items out
  have isNew : H (s.heap.objs.size + 1) = none := I.hok.fresh (Nat.le_succ _)
  have fits : (inOrder.map V.str).length ≤ sizeLine := by
    rw [List.length_map] at small ⊢
    rw [perm.length_eq]
    exact small
  refine ⟨V.ref (s.heap.objs.size + 1), upd H (s.heap.objs.size + 1) (.lst (inOrder.map V.str)), ?_, rfl, ?_⟩
  · apply I.laid (t' := s.toks) (fun _ _ old => PyProof.Rows.sortedAll_old old) (Nat.le_succ _)
    exact ⟨fits, out.toList, extra, vals_of_strs areTexts, made⟩
  · exact want inOrder _ perm order isNew
end
theorem lc_irr : ∀ a : List Nat, ltCps a a = false
  | [] => rfl
  | x :: r => by simp [ltCps, lc_irr r]
theorem lc_trans : ∀ {a b c : List Nat}, ltCps a b = true → ltCps b c = true → ltCps a c = true
  | [], [], _, h, _ => by cases h
  | [], _ :: _, [], _, h => by cases h
  | [], _ :: _, _ :: _, _, _ => rfl
  | _ :: _, [], _, h, _ => by cases h
  | _ :: _, _ :: _, [], _, h => by cases h
  | x :: a, y :: b, z :: c, h, k => by
    simp only [ltCps, Bool.or_eq_true, decide_eq_true_eq, Bool.and_eq_true, beq_iff_eq] at h k ⊢
    rcases h with h | ⟨rfl, h⟩
    · rcases k with k | ⟨rfl, k⟩
      · exact Or.inl (by omega)
      · exact Or.inl h
    · rcases k with k | ⟨rfl, k⟩
      · exact Or.inl k
      · exact Or.inr ⟨rfl, lc_trans h k⟩
theorem lc_tri : ∀ {a b : List Nat}, ltCps a b = false → ltCps b a = false → a = b
  | [], [], _, _ => rfl
  | [], _ :: _, h, _ => by cases h
  | _ :: _, [], _, h => by cases h
  | x :: a, y :: b, h, k => by
    simp only [ltCps, Bool.or_eq_false_iff, decide_eq_false_iff_not, Bool.and_eq_false_iff, beq_eq_false_iff_ne] at h k
    have e : x = y := by omega
    subst e
    rw [lc_tri (h.2.resolve_left fun q => q rfl) (k.2.resolve_left fun q => q rfl)]
/-- x stands ahead of y -/
def ahead (x y : Str) : Bool := ltCps (cd x) (cd y)
theorem ahead_irr (x : Str) : ahead x x = false := lc_irr _
theorem ahead_trans {x y z : Str} (h : ahead x y = true) (k : ahead y z = true) : ahead x z = true := lc_trans h k
theorem ahead_tri {x y : Str} (h : ahead x y = false) (k : ahead y x = false) : x = y := cd_inj (lc_tri h k)
/-- each stands ahead of the next ones -/
def Rise (l : List Str) : Prop := l.Pairwise fun a b => ahead a b = true
def insS (x : Str) : List Str → List Str
  | [] => [x]
  | y :: r => if ahead x y = true then x :: y :: r else if x = y then y :: r else y :: insS x r
def rise (l : List Str) : List Str := l.foldr insS []
theorem mem_ins {x z : Str} : ∀ {l : List Str}, z ∈ insS x l ↔ z = x ∨ z ∈ l
  | [] => by simp [insS]
  | y :: r => by
    unfold insS
    split
    · simp
    · split
      · rename_i e
        subst e
        simp
      · rw [List.mem_cons, mem_ins, List.mem_cons]
        constructor
        · rintro (h | h | h)
          · exact Or.inr (Or.inl h)
          · exact Or.inl h
          · exact Or.inr (Or.inr h)
        · rintro (h | h | h)
          · exact Or.inr (Or.inl h)
          · exact Or.inl h
          · exact Or.inr (Or.inr h)
theorem rise_ins {x : Str} : ∀ {l : List Str}, Rise l → Rise (insS x l)
  | [], _ => List.pairwise_singleton _ _
  | y :: r, h => by
    obtain ⟨h1, h2⟩ := List.pairwise_cons.mp h
    unfold insS
    split
    · rename_i e
      refine List.pairwise_cons.mpr ⟨fun z hz => ?_, h⟩
      rcases List.mem_cons.mp hz with rfl | hz
      · exact e
      · exact ahead_trans e (h1 z hz)
    · split
      · exact h
      · rename_i e ne
        refine List.pairwise_cons.mpr ⟨fun z hz => ?_, rise_ins h2⟩
        rcases mem_ins.mp hz with rfl | hz
        · cases q : ahead y z with
          | true => rfl
          | false =>
            refine absurd (ahead_tri ?_ q) ne
            cases w : ahead z y with
            | false => rfl
            | true => exact absurd w e
        · exact h1 z hz
theorem rise_rise : ∀ l : List Str, Rise (rise l)
  | [] => List.Pairwise.nil
  | x :: r => rise_ins (rise_rise r)
theorem mem_rise {z : Str} : ∀ {l : List Str}, z ∈ rise l ↔ z ∈ l
  | [] => Iff.rfl
  | x :: r => by
    show z ∈ insS x (rise r) ↔ _
    rw [mem_ins, mem_rise, List.mem_cons]
/-- rows that rise and have the same texts are one -/
theorem rise_ext : ∀ {a b : List Str}, Rise a → Rise b → (∀ x, x ∈ a ↔ x ∈ b) → a = b
  | [], [], _, _, _ => rfl
  | [], y :: b, _, _, h => by cases (h y).mpr List.mem_cons_self
  | x :: a, [], _, _, h => by cases (h x).mp List.mem_cons_self
  | x :: a, y :: b, ha, hb, h => by
    obtain ⟨ha1, ha2⟩ := List.pairwise_cons.mp ha
    obtain ⟨hb1, hb2⟩ := List.pairwise_cons.mp hb
    have e : x = y := by
      rcases List.mem_cons.mp ((h x).mp List.mem_cons_self) with e | hx
      · exact e
      · rcases List.mem_cons.mp ((h y).mpr List.mem_cons_self) with e | hy
        · exact e.symm
        · have := ahead_trans (hb1 x hx) (ha1 y hy)
          rw [ahead_irr] at this
          cases this
    subst e
    rw [rise_ext ha2 hb2 fun z => ?_]
    constructor
    · intro hz
      rcases List.mem_cons.mp ((h z).mp (List.mem_cons_of_mem _ hz)) with e | hz2
      · rw [e] at hz
        have := ha1 x hz
        rw [ahead_irr] at this
        cases this
      · exact hz2
    · intro hz
      rcases List.mem_cons.mp ((h z).mpr (List.mem_cons_of_mem _ hz)) with e | hz2
      · rw [e] at hz
        have := hb1 x hz
        rw [ahead_irr] at this
        cases this
      · exact hz2
theorem rising_pw : ∀ {l : List Str} {p : Str}, risingS p l = true → (∀ x ∈ l, ahead x p = false) ∧ l.Pairwise fun a b => ahead b a = false
  | [], _, _ => ⟨fun x hx => (by cases hx), List.Pairwise.nil⟩
  | x :: r, p, h => by
    obtain ⟨h1, h2⟩ := Bool.and_eq_true_iff.mp h
    have hxp : ahead x p = false := by
      cases q : ahead x p with
      | false => rfl
      | true =>
        have h1 : (!ahead x p) = true := h1
        rw [q] at h1
        cases h1
    obtain ⟨k1, k2⟩ := rising_pw h2
    refine ⟨fun z hz => ?_, List.pairwise_cons.mpr ⟨k1, k2⟩⟩
    rcases List.mem_cons.mp hz with rfl | hz
    · exact hxp
    · have hzx := k1 z hz
      cases q : ahead z p with
      | false => rfl
      | true =>
        cases w : ahead p x with
        | true =>
          have := ahead_trans q w
          rw [hzx] at this
          cases this
        | false =>
          have e := ahead_tri hxp w
          rw [e] at hzx
          rw [hzx] at q
          cases q
theorem sorted_pw {l : List Str} (h : sortedS l = true) : l.Pairwise fun a b => ahead b a = false := by
  cases l with
  | nil => exact List.Pairwise.nil
  | cons x r =>
    obtain ⟨h1, h2⟩ := rising_pw (p := x) (l := r) h
    exact List.pairwise_cons.mpr ⟨h1, h2⟩
/-- the next of a sorted row, if it is new, rises behind what stands -/
theorem rise_snoc {rs ys : List Str} {j : Nat} {y : Str} (hr : Rise rs) (hm : ∀ x, x ∈ rs ↔ x ∈ ys.take j) (hs : sortedS ys = true) (hy : ys[j]? = some y) (nin : y ∉ rs) : Rise (rs ++ [y]) := by
  refine List.pairwise_append.mpr ⟨hr, List.pairwise_singleton _ _, fun a ha b hb => ?_⟩
  rw [List.mem_singleton.mp hb]
  have pw := sorted_pw hs
  have ha2 := (hm a).mp ha
  obtain ⟨i, hi⟩ := List.getElem?_of_mem ha2
  have hij : i < j := by
    by_cases lt : i < j
    · exact lt
    · rw [List.getElem?_eq_none (by rw [List.length_take]; omega)] at hi
      cases hi
  rw [List.getElem?_take_of_lt hij] at hi
  have li : i < ys.length := by
    by_cases lt : i < ys.length
    · exact lt
    · rw [List.getElem?_eq_none (by omega)] at hi
      cases hi
  have lj : j < ys.length := by
    by_cases lt : j < ys.length
    · exact lt
    · rw [List.getElem?_eq_none (by omega)] at hy
      cases hy
  have e1 : ys[i] = a := by
    rw [List.getElem?_eq_getElem li] at hi
    exact Option.some.inj hi
  have e2 : ys[j] = y := by
    rw [List.getElem?_eq_getElem lj] at hy
    exact Option.some.inj hy
  have h := (List.pairwise_iff_getElem.mp pw) i j li lj hij
  rw [e1, e2] at h
  cases q : ahead a y with
  | true => rfl
  | false => exact absurd (ahead_tri h q) (by rintro rfl; exact nin ha)
end Pg

/-! Own classes by their names; data that no store reaches. -/
namespace Pg
open PySem PySem.Spec PyProof.Rows L2
/-- a method of the class at C, with all its arguments given -/
def CalM (P : Program) (w : World) (K : PySem.W.Frag) (mg : Str → Option Value) (base : Heap) (C : Addr) (m : Str) (k : Nat) (ps : List Str) (sp : Sp) : Prop :=
  Cls K C ∧ ∃ f fd, FnOk P w K mg base CX0 k f fd ps sp ∧ Binds K fd ps [] ∧ Meth K C m f
/-- the class x at C, made by an __init__ of that promise -/
def CalK (P : Program) (w : World) (K : PySem.W.Frag) (mg : Str → Option Value) (base : Heap) (x : Str) (C : Addr) (k : Nat) (ps : List Str) (sp : Sp) : Prop :=
  mg x = some (.ref C) ∧ ∃ f fd, Mk K C f ∧ FnOk P w K mg base CX0 k f fd ps sp ∧ Binds K fd ps []
section
variable {X : Cx} {C : Addr} {k : Nat} {m x : Str} {ps : List Str} {sp : Sp} {o e : Expr} {es : List Expr} {to : TE} {t : TA} {apos pos p : Pos}
theorem pe_calM {pl : Sem Bool} (M : CalM X.prog X.w X.K X.mg X.base C m k ps sp) (hr : Room k X.A) (ho : PE X o to) (ha : PA X (e :: es) t)
    (hst : starEach (e :: es) X.env = (false, eval e X.env) :: starEach es X.env := by rfl) (hpl : (backTo pos (starEach es X.env)).any (·.1) = false := by rfl)
    (ht : eval (.Call (.Attribute o m apos) (e :: es) [] pos) X.env = (do
      let ov ← eval o X.env
      standAt apos.atName
      let (f, first) ← holding [ov] (getMethod ov m pl)
      callWith pos f first (backTo pos (starEach (e :: es) X.env)) (backToKw pos (keywordEach [] X.env))) := by rfl) :
    PE X (.Call (.Attribute o m apos) (e :: es) [] pos) (tMeth C m sp [] E0 to t) := by
  obtain ⟨c, f, fd, F, b, h⟩ := M
  exact pe_meth ho c h F hr b .nil pass0 ha hst hpl ht
theorem pe_calM0 {pl : Sem Bool} (M : CalM X.prog X.w X.K X.mg X.base C m k ps sp) (hr : Room k X.A) (ho : PE X o to)
    (ht : eval (.Call (.Attribute o m apos) [] [] pos) X.env = (do
      let ov ← eval o X.env
      standAt apos.atName
      let (f, first) ← holding [ov] (getMethod ov m pl)
      callWith pos f first (backTo pos (starEach [] X.env)) (backToKw pos (keywordEach [] X.env))) := by rfl) :
    PE X (.Call (.Attribute o m apos) [] [] pos) (tMeth C m sp [] E0 to tNil) := by
  obtain ⟨c, f, fd, F, b, h⟩ := M
  exact pe_meth0 ho c h F hr b .nil pass0 ht
theorem pe_mk0 (M : CalK X.prog X.w X.K X.mg X.base x C k ps sp) (hr : Room (k + 1) X.A) (hg : Gl X x) (hdb : (x == ("__debug__" : Str)) = false := by decide) : PE X (.Call (.Name x p) [] [] pos) (tMake C sp [] E0 tNil) := by
  obtain ⟨g, f, fd, mk, F, b⟩ := M
  exact pe_make0 mk F hr hg g b .nil pass0 hdb
theorem pe_mkA (M : CalK X.prog X.w X.K X.mg X.base x C k ps sp) (hr : Room (k + 1) X.A) (hg : Gl X x) (ha : PA X (e :: es) t) (hdb : (x == ("__debug__" : Str)) = false := by decide)
    (he : starEach (e :: es) X.env = (false, eval e X.env) :: starEach es X.env := by rfl) (hpl : (backTo pos (starEach es X.env)).any (·.1) = false := by rfl) :
    PE X (.Call (.Name x p) (e :: es) [] pos) (tMake C sp [] E0 t) := by
  obtain ⟨g, f, fd, mk, F, b⟩ := M
  exact pe_make mk F hr hg g b .nil pass0 ha hdb he hpl
end
theorem same_seqT {K : PySem.W.Frag} {H H' : Hp} {a : Addr} {xs : List V} (e : Same H H') (h : SqT K H a xs) : SqT K H' a xs := by
  rcases h with (h | ⟨o, h⟩) | h
  · exact .inl (.inl (e _ _ h))
  · exact .inl (.inr ⟨o, e _ _ h⟩)
  · exact .inr h
/-! ### data of tuples, texts, numbers: no store reaches it -/
/-- all tuples are as they were -/
def KeepT (K : PySem.W.Frag) (H H' : Hp) : Prop := ∀ a xs, SqT K H a xs → SqT K H' a xs
theorem Same.keepT {K : PySem.W.Frag} {H H' : Hp} (e : Same H H') : KeepT K H H' := fun _ _ h => same_seqT e h
theorem KeepT.trans {K : PySem.W.Frag} {H H1 H2 : Hp} (a : KeepT K H H1) (b : KeepT K H1 H2) : KeepT K H H2 := fun c xs h => b c xs (a c xs h)
/-- a store at an object that is no tuple -/
theorem KeepT.upd {K : PySem.W.Frag} {H : Hp} {p : Addr} {o : HO} (no : ∀ xs, H p ≠ some (.tup xs)) (nf : ∀ b xs, H p ≠ some (.frz b (.tup xs))) : KeepT K H (upd H p o) := by
  rintro a xs ((h | ⟨b, h⟩) | h)
  · exact .inl (.inl (by rw [upd_ne (by rintro rfl; exact no _ h)]; exact h))
  · exact .inl (.inr ⟨b, by rw [upd_ne (by rintro rfl; exact nf _ _ h)]; exact h⟩)
  · exact .inr h
mutual
def noL : PyData → Bool
  | .tuple ds => noLAll ds
  | .list _ => false
  | .dict _ => false
  | _ => true
def noLAll : List PyData → Bool
  | [] => true
  | d :: ds => noL d && noLAll ds
end
mutual
theorem Dp.keepT {K : PySem.W.Frag} {H H' : Hp} (k : KeepT K H H') : ∀ (d : PyData) (v : V), noL d = true → Dp K H v d → Dp K H' v d
  | .none, _, _, h => by cases h; exact .non
  | .bool b, _, _, h => by cases h; exact .bl b
  | .int i, _, _, h => by cases h; exact .int i
  | .str x, _, _, h => by cases h; exact .str x
  | .tuple ds, _, n, h => by
    cases h with
    | tup hs ha => exact .tup (k _ _ hs) (DpAll.keepT k ds _ n ha)
  | .list _, _, n, _ => by cases n
  | .dict _, _, n, _ => by cases n
theorem DpAll.keepT {K : PySem.W.Frag} {H H' : Hp} (k : KeepT K H H') : ∀ (ds : List PyData) (vs : List V), noLAll ds = true → DpAll K H vs ds → DpAll K H' vs ds
  | [], _, _, h => by cases h; exact .nil
  | d :: ds, _, n, h => by
    have n' : noL d = true ∧ noLAll ds = true := Bool.and_eq_true_iff.mp n
    cases h with
    | cons h1 h2 => exact .cons (Dp.keepT k d _ n'.1 h1) (DpAll.keepT k ds _ n'.2 h2)
end
/-! no truth value: equal as values is equal as data -/
mutual
def noB : PyData → Bool
  | .tuple ds => noBAll ds
  | .list ds => noBAll ds
  | .bool _ => false
  | .dict _ => false
  | _ => true
def noBAll : List PyData → Bool
  | [] => true
  | d :: ds => noB d && noBAll ds
end
mutual
theorem eqv_iff : ∀ (d e : PyData), noB d = true → noB e = true → (PyData.eqv d e = true ↔ d = e)
  | .none, e, _, n2 => by cases e <;> simp_all [PyData.eqv, noB]
  | .int i, e, _, n2 => by cases e <;> simp_all [PyData.eqv, noB]
  | .str x, e, _, n2 => by cases e <;> simp_all [PyData.eqv, noB]
  | .tuple ds, e, n1, n2 => by
    cases e with
    | tuple es =>
      rw [PyData.eqv, eqvAll_iff ds es n1 n2]
      exact ⟨fun h => by rw [h], fun h => PyData.tuple.inj h⟩
    | _ => simp_all [PyData.eqv, noB]
  | .list ds, e, n1, n2 => by
    cases e with
    | list es =>
      rw [PyData.eqv, eqvAll_iff ds es n1 n2]
      exact ⟨fun h => by rw [h], fun h => PyData.list.inj h⟩
    | _ => simp_all [PyData.eqv, noB]
  | .bool _, _, n1, _ => by cases n1
  | .dict _, _, n1, _ => by cases n1
theorem eqvAll_iff : ∀ (ds es : List PyData), noBAll ds = true → noBAll es = true → (PyData.eqvAll ds es = true ↔ ds = es)
  | [], [], _, _ => by simp [PyData.eqvAll]
  | [], _ :: _, _, _ => by simp [PyData.eqvAll]
  | _ :: _, [], _, _ => by simp [PyData.eqvAll]
  | d :: ds, e :: es, n1, n2 => by
    have n1' : noB d = true ∧ noBAll ds = true := Bool.and_eq_true_iff.mp n1
    have n2' : noB e = true ∧ noBAll es = true := Bool.and_eq_true_iff.mp n2
    rw [PyData.eqvAll, Bool.and_eq_true, eqv_iff d e n1'.1 n2'.1, eqvAll_iff ds es n1'.2 n2'.2]
    exact ⟨fun ⟨a, b⟩ => by rw [a, b], fun h => List.cons.inj h⟩
end
end Pg

/-! Data of a known size: what repr and == ask of it, put together from its parts. -/
namespace Pg
open PySem PySem.Spec PyProof.Rows L2
/-- at most D deep, at most M signs and parts -/
structure Sz (D M : Nat) (d : PyData) : Prop where
  ok : d.showable = true
  cl : d.canLay0 = true
  dep : d.depth ≤ D
  lv : d.leavesShort 13 = true
  bk : d.bulk ≤ M
structure SzA (D M : Nat) (ds : List PyData) : Prop where
  ok : PyData.showableAll ds = true
  cl : PyData.canLayAll0 ds = true
  dep : PyData.depthAll ds ≤ D
  lv : PyData.leavesShortAll 13 ds = true
  bk : PyData.bulkAll ds ≤ M
theorem Sz.mono {D D' M M' : Nat} {d : PyData} (s : Sz D M d) (h1 : D ≤ D') (h2 : M ≤ M') : Sz D' M' d := ⟨s.ok, s.cl, Nat.le_trans s.dep h1, s.lv, Nat.le_trans s.bk h2⟩
theorem SzA.mono {D D' M M' : Nat} {d : List PyData} (s : SzA D M d) (h1 : D ≤ D') (h2 : M ≤ M') : SzA D' M' d := ⟨s.ok, s.cl, Nat.le_trans s.dep h1, s.lv, Nat.le_trans s.bk h2⟩
theorem Sz.none : Sz 0 0 .none := ⟨rfl, rfl, Nat.le_refl _, rfl, Nat.le_refl _⟩
theorem Sz.bool (b : Bool) : Sz 0 0 (.bool b) := ⟨rfl, rfl, Nat.le_refl _, rfl, Nat.le_refl _⟩
theorem Sz.int {i : Int} (h1 : -999999999999 ≤ i) (h2 : i ≤ 999999999999) : Sz 0 0 (.int i) := by
  refine ⟨?_, rfl, Nat.le_refl _, ?_, Nat.le_refl _⟩
  · simp only [PyData.showable]
    refine decide_eq_true ?_
    by_cases z : i.natAbs = 0
    · rw [z]
      decide
    · refine (Nat.log2_lt z).mpr (Nat.lt_of_lt_of_le (show i.natAbs < 2 ^ 40 by omega) (Nat.pow_le_pow_right (n := 2) (by decide) (by decide)))
  · simp only [PyData.leavesShort]
    exact decide_eq_true (PyData.shown_int_le2 h1 h2)
theorem Sz.str {z : Str} {M : Nat} (c : Codes z) (l : z.length ≤ M) : Sz 0 M (.str z) := by
  refine ⟨rfl, ?_, Nat.le_refl _, ?_, ?_⟩
  · simp only [PyData.canLay0]
    exact c.ok
  · simp only [PyData.leavesShort]
    rw [List.all_eq_true]
    intro x hx
    have := c x hx
    exact decide_eq_true (by omega)
  · simp only [PyData.bulk]
    exact l
theorem SzA.nil {D : Nat} : SzA D 0 [] := ⟨rfl, rfl, Nat.zero_le _, rfl, Nat.le_refl _⟩
theorem SzA.cons {D M N : Nat} {d : PyData} {ds : List PyData} (a : Sz D M d) (b : SzA D N ds) : SzA D (M + 1 + N) (d :: ds) := by
  refine ⟨?_, ?_, ?_, ?_, ?_⟩
  · simp only [PyData.showableAll, a.ok, b.ok, Bool.and_true]
  · simp only [PyData.canLayAll0, a.cl, b.cl, Bool.and_true]
  · simp only [PyData.depthAll]
    exact Nat.max_le.mpr ⟨a.dep, b.dep⟩
  · simp only [PyData.leavesShortAll, a.lv, b.lv, Bool.and_true]
  · simp only [PyData.bulkAll]
    have := a.bk
    have := b.bk
    omega
theorem SzA.all {D M n : Nat} : ∀ {ds : List PyData}, (∀ d ∈ ds, Sz D M d) → ds.length ≤ n → SzA D (n * (M + 1)) ds
  | [], _, _ => SzA.nil.mono (Nat.le_refl _) (Nat.zero_le _)
  | d :: ds, h, l => by
    obtain ⟨n, rfl⟩ : ∃ m, n = m + 1 := ⟨n - 1, by rw [List.length_cons] at l; omega⟩
    have ih := SzA.all (n := n) (fun x hx => h x (List.mem_cons_of_mem _ hx)) (by rw [List.length_cons] at l; omega)
    refine (SzA.cons (h d List.mem_cons_self) ih).mono (Nat.le_refl _) ?_
    rw [Nat.succ_mul]
    omega
theorem SzA.tup {D M : Nat} {ds : List PyData} (a : SzA D M ds) : Sz (D + 1) M (.tuple ds) := by
  refine ⟨?_, ?_, ?_, ?_, ?_⟩
  · simp only [PyData.showable, a.ok]
  · simp only [PyData.canLay0, a.cl]
  · simp only [PyData.depth]
    exact Nat.succ_le_succ a.dep
  · simp only [PyData.leavesShort, a.lv]
  · simp only [PyData.bulk]
    exact a.bk
theorem SzA.lst {D M : Nat} {ds : List PyData} (a : SzA D M ds) : Sz (D + 1) M (.list ds) := by
  refine ⟨?_, ?_, ?_, ?_, ?_⟩
  · simp only [PyData.showable, a.ok]
  · simp only [PyData.canLay0, a.cl]
  · simp only [PyData.depth]
    exact Nat.succ_le_succ a.dep
  · simp only [PyData.leavesShort, a.lv]
  · simp only [PyData.bulk]
    exact a.bk
theorem Sz.nd {D M : Nat} {d : PyData} (s : Sz D M d) : d.hasDict = false := PyData.hasDict_of_canLay _ s.cl
theorem Sz.fits {D M : Nat} {d : PyData} (s : Sz D M d) (h : M ≤ 2 ^ 20) : d.shown.length ≤ sizeLine := PyData.shown_fits_bulk (B := 13) (by decide) (by decide) s.lv (Nat.le_trans s.bk h)
theorem Sz.shaped {D M : Nat} {d : PyData} (s : Sz D M d) (h : D ≤ 64) : SeqAt.shaped d = true := by
  unfold SeqAt.shaped
  rw [s.cl, Bool.true_and]
  exact decide_eq_true (Nat.le_trans s.dep h)
/-- .. of tuples, texts, numbers, None alone -/
structure Pd (D M : Nat) (d : PyData) : Prop where
  sz : Sz D M d
  nl : noL d = true
  nb : noB d = true
structure PdA (D M : Nat) (ds : List PyData) : Prop where
  sz : SzA D M ds
  nl : noLAll ds = true
  nb : noBAll ds = true
theorem Pd.mono {D D' M M' : Nat} {d : PyData} (s : Pd D M d) (h1 : D ≤ D') (h2 : M ≤ M') : Pd D' M' d := ⟨s.sz.mono h1 h2, s.nl, s.nb⟩
theorem PdA.mono {D D' M M' : Nat} {d : List PyData} (s : PdA D M d) (h1 : D ≤ D') (h2 : M ≤ M') : PdA D' M' d := ⟨s.sz.mono h1 h2, s.nl, s.nb⟩
theorem Pd.none : Pd 0 0 .none := ⟨Sz.none, rfl, rfl⟩
theorem Pd.int {i : Int} (h1 : -999999999999 ≤ i) (h2 : i ≤ 999999999999) : Pd 0 0 (.int i) := ⟨Sz.int h1 h2, rfl, rfl⟩
theorem Pd.str {z : Str} {M : Nat} (c : Codes z) (l : z.length ≤ M) : Pd 0 M (.str z) := ⟨Sz.str c l, rfl, rfl⟩
theorem PdA.nil {D : Nat} : PdA D 0 [] := ⟨SzA.nil, rfl, rfl⟩
theorem PdA.cons {D M N : Nat} {d : PyData} {ds : List PyData} (a : Pd D M d) (b : PdA D N ds) : PdA D (M + 1 + N) (d :: ds) :=
  ⟨SzA.cons a.sz b.sz, by simp only [noLAll, a.nl, b.nl, Bool.and_true], by simp only [noBAll, a.nb, b.nb, Bool.and_true]⟩
theorem PdA.all {D M n : Nat} {ds : List PyData} (h : ∀ d ∈ ds, Pd D M d) (l : ds.length ≤ n) : PdA D (n * (M + 1)) ds := by
  refine ⟨SzA.all (fun d hd => (h d hd).sz) l, ?_, ?_⟩
  · clear l
    induction ds with
    | nil => rfl
    | cons d r ih =>
      rw [noLAll, (h d List.mem_cons_self).nl, ih fun x hx => h x (List.mem_cons_of_mem _ hx)]
      rfl
  · clear l
    induction ds with
    | nil => rfl
    | cons d r ih =>
      rw [noBAll, (h d List.mem_cons_self).nb, ih fun x hx => h x (List.mem_cons_of_mem _ hx)]
      rfl
theorem PdA.tup {D M : Nat} {ds : List PyData} (a : PdA D M ds) : Pd (D + 1) M (.tuple ds) := ⟨a.sz.tup, by simp only [noL, a.nl], by simp only [noB, a.nb]⟩
theorem PdA.mem {D M : Nat} : ∀ {ds : List PyData}, PdA D M ds → ∀ d ∈ ds, Pd D M d
  | x :: ds, a, d, hd => by
    obtain ⟨⟨a1, a2, a3, a4, a5⟩, b1, b2⟩ := a
    have a1' : x.showable = true ∧ PyData.showableAll ds = true := Bool.and_eq_true_iff.mp a1
    have a2' : x.canLay0 = true ∧ PyData.canLayAll0 ds = true := Bool.and_eq_true_iff.mp a2
    have a3' : x.depth ≤ D ∧ PyData.depthAll ds ≤ D := Nat.max_le.mp a3
    have a4' : x.leavesShort 13 = true ∧ PyData.leavesShortAll 13 ds = true := Bool.and_eq_true_iff.mp a4
    have a5' : x.bulk + 1 + PyData.bulkAll ds ≤ M := a5
    have b1' : noL x = true ∧ noLAll ds = true := Bool.and_eq_true_iff.mp b1
    have b2' : noB x = true ∧ noBAll ds = true := Bool.and_eq_true_iff.mp b2
    rcases List.mem_cons.mp hd with rfl | hd
    · exact ⟨⟨a1'.1, a2'.1, a3'.1, a4'.1, by omega⟩, b1'.1, b2'.1⟩
    · exact PdA.mem (ds := ds) ⟨⟨a1'.2, a2'.2, a3'.2, a4'.2, by omega⟩, b1'.2, b2'.2⟩ d hd
theorem Pd.parts {D M : Nat} {ds : List PyData} (p : Pd D M (.tuple ds)) : PdA D M ds := by
  obtain ⟨⟨a1, a2, a3, a4, a5⟩, b1, b2⟩ := p
  have a3' : PyData.depthAll ds + 1 ≤ D := a3
  exact ⟨⟨a1, a2, by omega, a4, a5⟩, b1, b2⟩
theorem Pd.keep {D M : Nat} {K : PySem.W.Frag} {H H' : Hp} {v : V} {d : PyData} (p : Pd D M d) (k : KeepT K H H') (h : Dp K H v d) : Dp K H' v d := Dp.keepT k d v p.nl h
theorem PdA.keep {D M : Nat} {K : PySem.W.Frag} {H H' : Hp} {v : List V} {d : List PyData} (p : PdA D M d) (k : KeepT K H H') (h : DpAll K H v d) : DpAll K H' v d := DpAll.keepT k d v p.nl h
theorem Pd.eqv {D M D' M' : Nat} {d e : PyData} (a : Pd D M d) (b : Pd D' M' e) : PyData.eqv d e = true ↔ d = e := eqv_iff d e a.nb b.nb
theorem dpAll_len {K : PySem.W.Frag} {H : Hp} : ∀ {vs : List V} {ds : List PyData}, DpAll K H vs ds → vs.length = ds.length
  | _, _, .nil => rfl
  | _, _, .cons _ t => congrArg (· + 1) (dpAll_len t)
theorem dpAll_get {K : PySem.W.Frag} {H : Hp} : ∀ {vs : List V} {ds : List PyData} {i : Nat} {d : PyData}, DpAll K H vs ds → ds[i]? = some d → ∃ v, vs[i]? = some v ∧ Dp K H v d
  | _, _, 0, _, .cons h _, e => ⟨_, rfl, by rw [← Option.some.inj e]; exact h⟩
  | _, _, i + 1, _, .cons _ t, e => dpAll_get (i := i) t e
theorem dpAll_get' {K : PySem.W.Frag} {H : Hp} : ∀ {vs : List V} {ds : List PyData} {i : Nat} {v : V}, DpAll K H vs ds → vs[i]? = some v → ∃ d, ds[i]? = some d ∧ Dp K H v d
  | _, _, 0, _, .cons h _, e => ⟨_, rfl, by rw [← Option.some.inj e]; exact h⟩
  | _, _, i + 1, _, .cons _ t, e => dpAll_get' (i := i) t e
theorem dpAll_app {K : PySem.W.Frag} {H : Hp} : ∀ {vs ws : List V} {ds es : List PyData}, DpAll K H vs ds → DpAll K H ws es → DpAll K H (vs ++ ws) (ds ++ es)
  | _, _, _, _, .nil, h => h
  | _, _, _, _, .cons a t, h => .cons a (dpAll_app t h)
theorem dpAll_take {K : PySem.W.Frag} {H : Hp} : ∀ {vs : List V} {ds : List PyData} (n : Nat), DpAll K H vs ds → DpAll K H (vs.take n) (ds.take n)
  | _, _, 0, _ => .nil
  | _, _, _ + 1, .nil => .nil
  | _, _, n + 1, .cons a t => .cons a (dpAll_take n t)
/-- a list of data -/
def LAt (K : PySem.W.Frag) (H : Hp) (l : Addr) (ds : List PyData) : Prop := ∃ vs, H l = some (.lst vs) ∧ DpAll K H vs ds
theorem LAt.keep {D M : Nat} {K : PySem.W.Frag} {H H' : Hp} {l : Addr} {ds : List PyData} (a : LAt K H l ds) (p : PdA D M ds) (k : KeepT K H H') (e : H' l = H l) : LAt K H' l ds :=
  let ⟨vs, h, d⟩ := a
  ⟨vs, e.trans h, p.keep k d⟩
theorem LAt.same {D M : Nat} {K : PySem.W.Frag} {H H' : Hp} {l : Addr} {ds : List PyData} (a : LAt K H l ds) (p : PdA D M ds) (s : Same H H') : LAt K H' l ds :=
  let ⟨vs, h, d⟩ := a
  ⟨vs, s _ _ h, p.keep (Same.keepT s) d⟩
theorem LAt.dp {K : PySem.W.Frag} {H : Hp} {l : Addr} {ds : List PyData} (a : LAt K H l ds) : Dp K H (.ref l) (.list ds) :=
  let ⟨_, h, d⟩ := a
  .lst (.inl (.inl h)) d
/-! ### a dict comprehension over the items of a dict that is locked meanwhile -/
theorem dc_items {d : Addr} {o : Obj} {kvs : List (Key × V)} {g : TG} {tt : TT} {tk tv : TE} {vs : List Nat} {σ : L2.St} {H1 : Hp} {D : Addr} {Qd : Hp → Prop} (Pv : Nat → Hp → Prop) (h0 : Pv 0 (upd H1 D (.dK [])))
    (hl : ∀ i H, i ≤ kvs.length → Pv i H → H d = some (.frz o (.dK kvs)))
    (hs : ∀ i k v T H, kvs[i]? = some (k, v) → Pv i H → H T = none → g (.ref T) (wipe σ vs) (upd H T (.tup [kV k, v])) fun σ2 H2 => wipe σ2 vs = wipe σ vs ∧ tt σ2 H2 fun b H3 =>
      if b = true then tk σ2 H3 fun y H4 => tv σ2 H4 fun z H5 => ∃ kws k, y = kV k ∧ H5 D = some (.dK kws) ∧ kws.length < sizeLine ∧ Pv (i + 1) (upd H5 D (.dK (putK kws k z))) else Pv (i + 1) H3) (hd : ∀ H, Pv kvs.length H → Qd H) :
    ∃ W : Nat → Nat → Hp → Prop, (∃ m, W 0 m (upd H1 D (.dK []))) ∧ ∀ i m H, W i m H →
      ((Iti d o kvs).stop i H ∧ Qd H) ∨ ((Iti d o kvs).go i H ∧ ∃ Nx : Hp → Prop, (∀ H', Nx H' → ∃ m', m' < m ∧ W (i + 1) m' H') ∧ ∀ x H', (Iti d o kvs).yld i H x H' → g x (wipe σ vs) H' fun σ2 H2 => wipe σ2 vs = wipe σ vs ∧ tt σ2 H2 fun b H3 =>
        if b = true then tk σ2 H3 fun y H4 => tv σ2 H4 fun z H5 => ∃ kws k, y = kV k ∧ H5 D = some (.dK kws) ∧ kws.length < sizeLine ∧ Nx (upd H5 D (.dK (putK kws k z))) else Nx H3) := by
  refine ⟨fun i m H => i + m = kvs.length ∧ Pv i H, ⟨kvs.length, by omega, h0⟩, ?_⟩
  rintro i m H ⟨e, p⟩
  have lk := hl i H (by omega) p
  by_cases lt : i < kvs.length
  · refine Or.inr ⟨⟨lk, lt⟩, Pv (i + 1), fun H' q => ⟨m - 1, by omega, by omega, q⟩, ?_⟩
    rintro x H' ⟨T, k, v, hkv, rfl, nT, rfl⟩
    exact hs i k v T H hkv p nT
  · obtain rfl : i = kvs.length := by omega
    exact Or.inl ⟨⟨lk, Nat.le_refl _⟩, hd H p⟩
/-! ### small things -/
/-- within a comprehension: the written part is the def's own -/
theorem op_eqDK {X : Cx} {K : PySem.W.Frag} (h : X.K = K) (hu : X.A.units + 64 < cLine) : OpR X (compareOp .Eq) (rEqD K) := h ▸ op_eqD hu
theorem op_neDK {X : Cx} {K : PySem.W.Frag} (h : X.K = K) (hu : X.A.units + 64 < cLine) : OpR X (compareOp .NotEq) (rNeD K) := h ▸ op_neD hu
theorem op_in_seqK {X : Cx} {K : PySem.W.Frag} (h : X.K = K) : OpR X (compareOp .In) (rIn K false) := h ▸ op_in_seq
theorem pg_tupK {X : Cx} {K : PySem.W.Frag} {es : List Expr} {k : Nat} {t : TGs} {n : Nat} {pos : Pos} (e : X.K = K) (hc : X.calm = true) (h : PGs X es t)
    (hn : (assignEach es X.env).length = n := by rfl) (hst : (assignEach es X.env).findIdx? (·.1) = none := by rfl) : PG X (.Tuple es k pos) (gTup K n t) := e ▸ pg_tup hc h hn hst
theorem op_notIn_seqK {X : Cx} {K : PySem.W.Frag} (h : X.K = K) : OpR X (compareOp .NotIn) (rIn K true) := h ▸ op_notIn_seq
theorem inV_str (x : Str) (ys : List Str) : inV (.str x) (ys.map V.str) = decide (x ∈ ys) := by
  unfold inV
  rw [List.any_map, Bool.eq_iff_iff, List.any_eq_true, decide_eq_true_eq]
  constructor
  · rintro ⟨y, hy, e⟩
    have e' : (y == x) = true := e
    rw [← eq_of_beq e']
    exact hy
  · intro h
    exact ⟨x, h, (beq_self_eq_true x : (x == x) = true)⟩
theorem flat_str (ys : List Str) : (ys.map V.str).all flatV = true := by
  rw [List.all_map, List.all_eq_true]
  intro y _
  rfl
theorem cutV_up (xs : List V) (j : Nat) : cutV xs none (some (j : Int)) = xs.take j := by
  unfold cutV
  rw [HT.sIx_none, show HT.sIx xs.length xs.length (some (j : Int)) = min j xs.length from HT.sIx_nat xs.length xs.length j]
  show List.take (min j xs.length - 0) (List.drop 0 xs) = _
  rw [List.drop_zero, Nat.sub_zero, List.take_eq_take_iff]
  omega
theorem putS_app {β : Type} (kvs : List (Str × β)) (k : Str) (v : β) (h : k ∉ kvs.map (·.1)) : putS kvs k v = kvs ++ [(k, v)] := by
  apply putS_new
  rw [get_none.mpr h]
  rfl
/-- a list stays where a store goes to something else -/
theorem sqL_upd {K : PySem.W.Frag} {H : Hp} {p a : Addr} {o : HO} {xs : List V} (no : ∀ xs, H p ≠ some (.lst xs)) (nf : ∀ b xs, H p ≠ some (.frz b (.lst xs))) (h : SqL K H a xs) : SqL K (upd H p o) a xs := by
  rcases h with (h | ⟨b, h⟩) | h
  · exact .inl (.inl (by rw [upd_ne (by rintro rfl; exact no _ h)]; exact h))
  · exact .inl (.inr ⟨b, by rw [upd_ne (by rintro rfl; exact nf _ _ h)]; exact h⟩)
  · exact .inr h
end Pg

namespace K06
open PySem PySem.Spec PyProof.Rows L2 Pg
def topS (i : Nat) : Stmt := PySem.Challenge.pw_pagesatonce_k06_cache_of_renderings.main.body.getD i (.Pass ⟨0, 0, 0, 0⟩)
abbrev s_Cache_init : Stmt := inClass (topS 2) 0
theorem sc_Cache_init : FnScope ["self"] ["self"] (defScope s_Cache_init) := ⟨rfl, rfl, rfl, by decide +kernel, rfl, by decide +kernel, by decide +kernel⟩
abbrev s_Cache_renderings : Stmt := inClass (topS 2) 2
theorem sc_Cache_renderings : FnScope ["self", "name"] ["self", "name"] (defScope s_Cache_renderings) := ⟨rfl, rfl, rfl, by decide +kernel, rfl, by decide +kernel, by decide +kernel⟩
abbrev s_Cache_add : Stmt := inClass (topS 2) 1
theorem sc_Cache_add : FnScope ["self", "rendering", "name", "others", "other"] ["self", "rendering"] (defScope s_Cache_add) := ⟨rfl, rfl, rfl, by decide +kernel, rfl, by decide +kernel, by decide +kernel⟩
abbrev s_Cache_keep : Stmt := inClass (topS 2) 3
theorem sc_Cache_keep : FnScope ["self", "names", "name", "kept"] ["self", "names"] (defScope s_Cache_keep) := ⟨rfl, rfl, rfl, by decide +kernel, rfl, by decide +kernel, by decide +kernel⟩
abbrev s_Cache_find : Stmt := inClass (topS 2) 4
theorem sc_Cache_find : FnScope ["self", "name", "text", "found", "rendering"] ["self", "name", "text", "found"] (defScope s_Cache_find) := ⟨rfl, rfl, rfl, by decide +kernel, rfl, by decide +kernel, by decide +kernel⟩
abbrev s_law_cell : Stmt := topS 4
theorem sc_law_cell : FnScope ["script", "k"] ["script", "k"] (defScope s_law_cell) := ⟨rfl, rfl, rfl, by decide +kernel, rfl, by decide +kernel, by decide +kernel⟩
abbrev s_law_digits : Stmt := topS 5
theorem sc_law_digits : FnScope ["script", "first", "last", "digits", "k", "cell", "turn", "seed"] ["script", "first", "last"] (defScope s_law_digits) := ⟨rfl, rfl, rfl, by decide +kernel, rfl, by decide +kernel, by decide +kernel⟩
abbrev s_law_draw : Stmt := topS 6
theorem sc_law_draw : FnScope ["box", "many", "at"] ["box", "many"] (defScope s_law_draw) := ⟨rfl, rfl, rfl, by decide +kernel, rfl, by decide +kernel, by decide +kernel⟩
abbrev s_law_alike : Stmt := topS 11
theorem sc_law_alike : FnScope ["one", "two"] ["one", "two"] (defScope s_law_alike) := ⟨rfl, rfl, rfl, by decide +kernel, rfl, by decide +kernel, by decide +kernel⟩
abbrev s_law_found : Stmt := topS 12
theorem sc_law_found : FnScope ["box", "found", "turn"] ["box"] (defScope s_law_found) := ⟨rfl, rfl, rfl, by decide +kernel, rfl, by decide +kernel, by decide +kernel⟩
abbrev s_law_looked : Stmt := topS 13
theorem sc_law_looked : FnScope ["rows", "name", "text", "found", "row"] ["rows", "name", "text", "found"] (defScope s_law_looked) := ⟨rfl, rfl, rfl, by decide +kernel, rfl, by decide +kernel, by decide +kernel⟩
abbrev s_law : Stmt := topS 14
theorem sc_law : FnScope ["script", "box", "cache", "known", "turn", "name", "text", "found", "names", "other", "row", "rows"] ["script"] (defScope s_law) := ⟨rfl, rfl, rfl, by decide +kernel, rfl, by decide +kernel, by decide +kernel⟩
structure T_Cache (K : PySem.W.Frag) (mg : Str → Option Value) (C : Addr) : Prop where
  cl : Cls K C
  g : mg "Cache" = some (.ref C)
  n_renderings : NoAttr K C "_renderings"
structure Z (mg : Str → Option Value) : Prop where
  «len» : mg "len" = none
  «range» : mg "range" = none
  «int» : mg "int" = none
  «repr» : mg "repr" = none
  «list» : mg "list" = none
  «tuple» : mg "tuple" = none
  «str» : mg "str" = none
  c_RENDERINGS_MOST : ∃ t, mg "RENDERINGS_MOST" = some (.int 4 t)
end K06

namespace K06
open PySem PySem.Spec PyProof.Rows L2 Pg
/-! ### what the helpers of the law promise -/
/-- a cell of the script, or 0 -/
def spCell (K : PySem.W.Frag) : Sp := fun vs H Q _ => ∃ (l : Addr) (ns : List Int) (k : Nat), vs = [.ref l, .int (k : Nat)] ∧ SqL K H l (ns.map V.int) ∧ ∀ c : Int, Q (.int c) H
/-- a new list of some whole numbers -/
def spDigits (K : PySem.W.Frag) : Sp := fun vs H Q _ => ∃ (l : Addr) (ns : List Int) (a b : Nat), vs = [.ref l, .int (a : Nat), .int (b : Nat)] ∧ SqL K H l (ns.map V.int) ∧ a ≤ 63 ∧ b ≤ 63 ∧
  ∀ (H' : Hp) (p : Addr) (ds : List Int), Same H H' → H p = none → H' p = some (.lst (ds.map V.int)) → ds.length ≤ 4000 → Q (.ref p) H'
/-- the box of the draws: its digits stand at d -/
def BoxAt (H : Hp) (b d : Addr) : Prop := ∃ (ds : List Int) (n : Nat), H b = some (.lst [.ref d, .int (n : Nat)]) ∧ H d = some (.lst (ds.map V.int)) ∧ d ≠ b ∧ ds.length ≤ 4000
def Box (H : Hp) (b : Addr) : Prop := ∃ d, BoxAt H b d
/-- all but the box is as it was -/
structure Drew (b : Addr) (H H' : Hp) : Prop where
  box : Box H' b
  dig : ∀ d, BoxAt H b d → BoxAt H' b d
  keep : ∀ p o, p ≠ b → H p = some o → H' p = some o
theorem Drew.trans {b : Addr} {H H1 H2 : Hp} (x : Drew b H H1) (y : Drew b H1 H2) : Drew b H H2 := ⟨y.box, fun d e => y.dig d (x.dig d e), fun p o n e => y.keep p o n (x.keep p o n e)⟩
theorem BoxAt.same {b d : Addr} {H H' : Hp} (x : BoxAt H b d) (s : Same H H') : BoxAt H' b d := by
  obtain ⟨ds, n, e1, e2, ne, few⟩ := x
  exact ⟨ds, n, s _ _ e1, s _ _ e2, ne, few⟩
theorem BoxAt.upd {b d p : Addr} {H : Hp} {o : HO} (x : BoxAt H b d) (n1 : p ≠ b) (n2 : p ≠ d) : BoxAt (upd H p o) b d := by
  obtain ⟨ds, n, e1, e2, ne, few⟩ := x
  exact ⟨ds, n, by rw [upd_ne n1.symm]; exact e1, by rw [upd_ne n2.symm]; exact e2, ne, few⟩
theorem BoxAt.ne {b d p : Addr} {H : Hp} (x : BoxAt H b d) (n : H p = none) : p ≠ b ∧ p ≠ d := by
  obtain ⟨ds, m, e1, e2, _⟩ := x
  exact ⟨(ne_of_none e1 n).symm, (ne_of_none e2 n).symm⟩
theorem Box.same {b : Addr} {H H' : Hp} (x : Box H b) (s : Same H H') : Box H' b := let ⟨d, e⟩ := x; ⟨d, e.same s⟩
theorem Box.ne {b p : Addr} {H : Hp} (x : Box H b) (n : H p = none) : p ≠ b := let ⟨_, e⟩ := x; (e.ne n).1
theorem Drew.same {b : Addr} {H H1 H2 : Hp} (x : Drew b H H1) (s : Same H1 H2) : Drew b H H2 := ⟨x.box.same s, fun d e => (x.dig d e).same s, fun p o n e => s _ _ (x.keep p o n e)⟩
theorem Drew.of {b : Addr} {H H' : Hp} (x : Box H b) (s : Same H H') : Drew b H H' := ⟨x.same s, fun d e => e.same s, fun p o _ e => s _ _ e⟩
theorem same_new {H : Hp} {p : Addr} {o : HO} (h : H p = none) : Same H (upd H p o) := by
  intro b x e
  rw [upd_ne (ne_of_none e h)]
  exact e
theorem small5 {n : Nat} (h : n ≤ 100000) : n < sizeLine := Nat.lt_of_le_of_lt h (by decide)
def spDraw : Sp := fun vs H Q _ => ∃ (b : Addr) (many : Int), vs = [.ref b, .int many] ∧ 0 < many ∧ Box H b ∧ ∀ (r : Int) (H' : Hp), 0 ≤ r → r < many → Drew b H H' → Q (.int r) H'
def names8 : List Str := ["a", "b", "c", "d", "e", "ab", "bc", "cd"]
def spName : Sp := fun vs H Q _ => ∃ b : Addr, vs = [.ref b] ∧ Box H b ∧ ∀ (z : Str) (H' : Hp), z ∈ names8 → Drew b H H' → Q (.str z) H'
section
variable {P : Program} {w : World} {K : PySem.W.Frag} {mg : Str → Option Value} {base : Heap} {f : Addr} {fd : FuncData}
theorem ok_law_cell (F : Fun K "_law_cell" "_law_cell" s_law_cell f fd) (z : Z mg) : FnOk P w K mg base CX0 1 f fd ["script", "k"] (spCell K) := by
  refine F.ok sc_law_cell (fun vs H Q E h => ?_) (fun cdv A outer s H vs Q E hr h => ?_)
  · obtain ⟨l, ns, k, rfl, _⟩ := h
    rfl
  · obtain ⟨l, ns, k, rfl, hs, q⟩ := h
    refine ⟨_, (pss_cons (ps_if (pt_cmpR op_lt (pv 1) (pe_callB call_len_seq (by rfl) z.len PySem.boot_len (pa_cons (pv 0) pa_nil)) (nomark _))
        (pss_one (ps_ret (pe_ix ix_list (pv 0) (pv 1) (fun _ _ => rfl))))
        pss_nil)
      (pss_one (ps_ret pe_int))), ?_⟩
    refine ⟨_, rfl, .ref l, rfl, l, ns.map V.int, rfl, .inl hs, _, _, rfl, rfl, _, rfl, ite2 (fun e => ?_) (fun e => ?_)⟩
    · have lt : k < ns.length := by
        have e := of_decide_eq_true e
        rw [List.length_map] at e
        omega
      exact ⟨.ref l, rfl, _, rfl, l, _, _, _, rfl, rfl, hs, atI_nat (j := k) (by rw [List.getElem?_map, List.getElem?_eq_getElem lt]; rfl), q _⟩
    · exact q 0
theorem ok_law_draw (F : Fun K "_law_draw" "_law_draw" s_law_draw f fd) (z : Z mg) : FnOk P w K mg base CX0 1 f fd ["box", "many"] spDraw := by
  refine F.ok sc_law_draw (fun vs H Q E h => ?_) (fun cdv A outer s H vs Q E hr h => ?_)
  · obtain ⟨b, many, rfl, _⟩ := h
    rfl
  · obtain ⟨b, many, rfl, hm, ⟨d, ds, n, hb, hd, ne, few⟩, q⟩ := h
    refine ⟨_, (pss_cons (ps_set (i := 2) sc_law_draw.nd rfl (Or.inl rfl) (pe_ix ix_list (pv 0) pe_int (fun _ _ => rfl)))
      (pss_cons (ps_asg (pe_op op_add (pv 2) pe_int) (pg_sub (pv 0) pe_int set_list))
      (pss_cons (ps_if (pt_cmpR op_lt (pv 2) (pe_callB call_len_seq (by rfl) z.len PySem.boot_len (pa_cons (pe_ix ix_list (pv 0) pe_int (fun _ _ => rfl)) pa_nil)) (nomark _))
        (pss_one (ps_ret (pe_op op_mod (pe_callTy call_int1 (by rfl) z.int (by decide +kernel) (pa_cons (pe_ix ix_list (pe_ix ix_list (pv 0) pe_int (fun _ _ => rfl)) (pv 2) (fun _ _ => rfl)) pa_nil)) (pv 1))))
        pss_nil)
      (pss_one (ps_ret (pe_op op_mod (pe_callTy call_int1 (by rfl) z.int (by decide +kernel) (pa_cons (pe_op op_add (pe_op op_mul (pv 2) pe_int) pe_int) pa_nil)) (pv 1))))))), ?_⟩
    have hB : ∀ {H : Hp} {m : Int}, H b = some (.lst [.ref d, .int m]) → SqL K H b [.ref d, .int m] := fun e => .inl (.inl e)
    -- one draw further
    refine ⟨.ref b, rfl, b, _, _, .int (n : Nat), rfl, rfl, hB hb, rfl, ?_⟩
    refine ⟨_, rfl, _, _, rfl, rfl, .ref b, rfl, b, _, _, 1, rfl, rfl, hb, rfl, ?_⟩
    have hb' : (upd H b (.lst ([.ref d, .int (n : Nat)].set 1 (.int ((n : Nat) + 1))))) b = some (.lst [.ref d, .int ((n + 1 : Nat) : Int)]) := upd_same
    have hd' : (upd H b (.lst ([.ref d, .int (n : Nat)].set 1 (.int ((n : Nat) + 1))))) d = some (.lst (ds.map V.int)) := by rw [upd_ne ne]; exact hd
    have dr : Drew b H (upd H b (.lst ([.ref d, .int (n : Nat)].set 1 (.int ((n : Nat) + 1))))) := ⟨⟨d, ds, n + 1, hb', hd', ne, few⟩, fun d' B => by
      obtain ⟨ds', n', e1, e2, ne', few'⟩ := B
      rw [hb] at e1
      cases e1
      exact ⟨ds, n + 1, hb', hd', ne, few⟩, fun p o np e => by rw [upd_ne np]; exact e⟩
    -- if at < len(box[0])
    refine ⟨_, rfl, .ref b, rfl, b, _, _, .ref d, rfl, rfl, hB hb', rfl, d, _, rfl, .inl (.inl (.inl hd')), _, _, rfl, rfl, _, rfl, ite2 (fun e => ?_) (fun e => ?_)⟩
    · have lt : n < ds.length := by
        have e := of_decide_eq_true e
        rw [List.length_map] at e
        omega
      refine ⟨.ref b, rfl, b, _, _, .ref d, rfl, rfl, hB hb', rfl, _, rfl, d, _, _, .int ds[n], rfl, rfl, .inl (.inl hd'), atI_nat (j := n) (by rw [List.getElem?_map, List.getElem?_eq_getElem lt]; rfl), .inl ⟨_, rfl, ?_⟩⟩
      exact ⟨_, rfl, _, _, rfl, rfl, hm, q _ _ (Int.emod_nonneg _ (by omega)) (Int.emod_lt_of_pos _ hm) dr⟩
    · refine ⟨_, rfl, _, _, rfl, rfl, .inr ⟨by decide, by decide⟩, _, _, rfl, rfl, .inl ⟨_, rfl, ?_⟩⟩
      exact ⟨_, rfl, _, _, rfl, rfl, hm, q _ _ (Int.emod_nonneg _ (by omega)) (Int.emod_lt_of_pos _ hm) dr⟩
theorem ok_law_digits (F : Fun K "_law_digits" "_law_digits" s_law_digits f fd) (z : Z mg) (claw_cell : Cal P w K mg base "_law_cell" 1 ["script", "k"] (spCell K)) :
    FnOk P w K mg base CX0 2 f fd ["script", "first", "last"] (spDigits K) := by
  refine F.ok sc_law_digits (fun vs H Q E h => ?_) (fun cdv A outer s H vs Q E hr h => ?_)
  · obtain ⟨l, ns, a, b, rfl, _⟩ := h
    rfl
  · obtain ⟨l, ns, a, b, rfl, hs, ha, hb, q⟩ := h
    refine ⟨_, (pss_cons (ps_set (i := 3) sc_law_digits.nd rfl (Or.inl rfl) (pe_lst pa_nil))
      (pss_cons (ps_for PassesOwn.never rfl (pi_range2 (by rfl) z.range (pa_cons (pv 1) (pa_cons (pv 2) pa_nil))) (pg_name (i := 4) sc_law_digits.nd rfl (Or.inl rfl))
        (pss_cons (ps_set (i := 5) sc_law_digits.nd rfl (Or.inl rfl) (pe_cal claw_cell (hr.mono (by decide)) (by rfl) (pa_cons (pv 0) (pa_cons (pv 4) pa_nil))))
        (pss_cons (ps_if (pt_cmpR op_lt (pv 5) pe_int (nomark _))
          (pss_one (ps_set (i := 5) sc_law_digits.nd rfl (Or.inl rfl) (pe_op op_sub pe_int (pe_op op_mul pe_int (pv 5)))))
          pss_nil)
        (pss_one (ps_if (pt_cmpR op_ge (pv 5) pe_int (nomark _))
          (pss_one (ps_for PassesOwn.never rfl (pi_range1 (by rfl) z.range (pa_cons pe_int pa_nil)) (pg_name (i := 6) sc_law_digits.nd rfl (Or.inl rfl))
            (pss_one (ps_if (pt_cmpR op_gt (pv 5) pe_int (nomark _))
              (pss_cons (ps_expr (pe_bm PySem.F.plainAttrs_list PySem.F.slot_list_append PySem.F.type_list_append mt_append (pv 3) (pa_cons (pe_op op_mod (pe_callTy call_int1 (by rfl) z.int (by decide +kernel) (pa_cons (pv 5) pa_nil)) pe_int) pa_nil)))
              (pss_one (ps_set (i := 5) sc_law_digits.nd rfl (Or.inl rfl) (pe_op op_fdiv (pv 5) pe_int))))
              pss_nil))))
          (pss_cons (ps_set (i := 7) sc_law_digits.nd rfl (Or.inl rfl) (pe_op op_mod (pe_callTy call_int1 (by rfl) z.int (by decide +kernel) (pa_cons (pe_op op_add (pe_op op_add (pe_op op_mul (pv 5) pe_int) (pe_op op_mul (pv 4) pe_int)) pe_int) pa_nil)) pe_int))
          (pss_one (ps_for PassesOwn.never rfl (pi_range1 (by rfl) z.range (pa_cons pe_int pa_nil)) (pg_name (i := 6) sc_law_digits.nd rfl (Or.inl rfl))
            (pss_cons (ps_set (i := 7) sc_law_digits.nd rfl (Or.inl rfl) (pe_op op_mod (pe_callTy call_int1 (by rfl) z.int (by decide +kernel) (pa_cons (pe_op op_add (pe_op op_add (pe_op op_mul (pv 7) pe_int) (pe_op op_mul pe_int (pv 6))) pe_int) pa_nil)) pe_int))
            (pss_one (ps_expr (pe_bm PySem.F.plainAttrs_list PySem.F.slot_list_append PySem.F.type_list_append mt_append (pv 3) (pa_cons (pe_op op_mod (pe_callTy call_int1 (by rfl) z.int (by decide +kernel) (pa_cons (pe_op op_fdiv (pv 7) pe_int) pa_nil)) pe_int) pa_nil)))))))))))))
      (pss_one (ps_ret (pv 3))))), ?_⟩
    -- digits = []
    refine ⟨Nat.zero_le _, fun D nD => ?_⟩
    -- cell by cell
    refine ⟨_, rfl, _, rfl, _, _, rfl, ⟨by omega, by omega, by omega, by omega⟩, ?_⟩
    refine for_range (lo := (a : Int)) (n := ((b : Int) - (a : Int)).toNat) (fun i σ H3 => ∃ (y4 y5 y6 y7 : Option V) (ds : List Int), σ = [some (.ref l), some (.int (a : Nat)), some (.int (b : Nat)), some (.ref D), y4, y5, y6, y7] ∧
      Same H H3 ∧ H3 D = some (.lst (ds.map V.int)) ∧ ds.length ≤ 60 * i) ⟨none, none, none, none, [], rfl, same_new nD, upd_same, Nat.zero_le _⟩ ?_ ?_
    · rintro i σ H3 hi ⟨y4, y5, y6, y7, ds, rfl, sm, hD, few⟩
      have hi' : i < 63 := by omega
      -- a cell
      refine ⟨.ref l, rfl, .int ((a : Int) + i), rfl, l, ns, a + i, by simp, sm.seq hs, fun c => ?_⟩
      have appd : ∀ {H4 : Hp} {es : List Int} (x : Int), H4 D = some (.lst (es.map V.int)) → Same H H4 → Same H (upd H4 D (.lst (es.map V.int ++ [.int x]))) := fun x e s p o q => by
        rw [upd_ne (ne_of_none q nD)]
        exact s p o q
      -- if cell < 0
      refine ⟨_, rfl, _, _, rfl, rfl, _, rfl, ite2 (fun _ => ?_) (fun _ => ?_)⟩
      · refine ⟨_, rfl, _, _, rfl, rfl, .inl ⟨by decide, by decide⟩, _, _, rfl, rfl, ?_⟩
        refine ⟨_, rfl, _, _, rfl, rfl, _, rfl, ite2 (fun _ => ?_) (fun _ => ?_)⟩
        · -- sixty turns
          refine ⟨60, rfl, by decide, by decide, ?_⟩
          refine for_range (lo := 0) (n := 60) (fun j σ H4 => ∃ (x6 x7 : Option V) (c : Int) (es : List Int), σ = [some (.ref l), some (.int (a : Nat)), some (.int (b : Nat)), some (.ref D), some (.int ((a : Int) + i)), some (.int c), x6, x7] ∧
            Same H H4 ∧ H4 D = some (.lst (es.map V.int)) ∧ es.length ≤ ds.length + j) ⟨_, _, _, ds, rfl, sm, hD, Nat.le_refl _⟩ ?_ ?_
          · rintro j σ H4 hj ⟨x6, x7, c, es, rfl, sm4, hD4, few4⟩
            refine ⟨_, rfl, _, _, rfl, rfl, _, rfl, ite2 (fun _ => ?_) (fun _ => ?_)⟩
            · refine ⟨.ref D, rfl, .inl ⟨rfl, _, .inl (.inl hD4)⟩, _, rfl, .inl ⟨_, rfl, ?_⟩⟩
              refine ⟨_, _, rfl, rfl, (by show (0 : Int) < 1000; decide), D, _, _, rfl, rfl, hD4, small5 (by rw [List.length_map]; omega), ?_⟩
              exact ⟨_, rfl, _, _, rfl, rfl, ⟨by decide, by decide⟩, _, _, _, es ++ [c % 1000], rfl, appd _ hD4 sm4, by rw [upd_same, List.map_append]; rfl, by rw [List.length_append]; simp only [List.length_singleton]; omega⟩
            · exact ⟨_, _, _, es, rfl, sm4, hD4, by omega⟩
          · rintro σ H4 ⟨x6, x7, c, es, rfl, sm4, hD4, few4⟩
            exact ⟨_, _, _, _, es, rfl, sm4, hD4, by omega⟩
        · -- twelve turns
          refine ⟨_, rfl, _, _, rfl, rfl, .inr ⟨by decide, by decide⟩, _, rfl, _, _, rfl, rfl, .inr ⟨by decide, by decide⟩, _, _, rfl, rfl, _, _, rfl, rfl, .inl ⟨_, rfl, ?_⟩⟩
          refine ⟨_, _, rfl, rfl, (by show (0 : Int) < 2147483399; decide), ?_⟩
          refine ⟨12, rfl, by decide, by decide, ?_⟩
          refine for_range (lo := 0) (n := 12) (fun j σ H4 => ∃ (x5 x6 : Option V) (c : Int) (es : List Int), σ = [some (.ref l), some (.int (a : Nat)), some (.int (b : Nat)), some (.ref D), some (.int ((a : Int) + i)), x5, x6, some (.int c)] ∧
            Same H H4 ∧ H4 D = some (.lst (es.map V.int)) ∧ es.length ≤ ds.length + j) ⟨_, _, _, ds, rfl, sm, hD, Nat.le_refl _⟩ ?_ ?_
          · rintro j σ H4 hj ⟨x5, x6, c, es, rfl, sm4, hD4, few4⟩
            refine ⟨_, rfl, _, _, rfl, rfl, .inr ⟨by decide, by decide⟩, _, rfl, _, _, rfl, rfl, .inl ⟨by decide, by decide⟩, _, _, rfl, rfl, _, _, rfl, rfl, .inl ⟨_, rfl, ?_⟩⟩
            refine ⟨_, _, rfl, rfl, (by show (0 : Int) < 2147483563; decide), ?_⟩
            refine ⟨.ref D, rfl, .inl ⟨rfl, _, .inl (.inl hD4)⟩, _, rfl, _, _, rfl, rfl, ⟨by decide, by decide⟩, .inl ⟨_, rfl, ?_⟩⟩
            refine ⟨_, _, rfl, rfl, (by show (0 : Int) < 1000; decide), D, _, _, rfl, rfl, hD4, small5 (by rw [List.length_map]; omega), ?_⟩
            exact ⟨_, _, _, es ++ [_], rfl, appd _ hD4 sm4, by rw [upd_same, List.map_append]; rfl, by rw [List.length_append]; simp only [List.length_singleton]; omega⟩
          · rintro σ H4 ⟨x5, x6, c, es, rfl, sm4, hD4, few4⟩
            exact ⟨_, _, _, _, es, rfl, sm4, hD4, by omega⟩
      · skip
        refine ⟨_, rfl, _, _, rfl, rfl, _, rfl, ite2 (fun _ => ?_) (fun _ => ?_)⟩
        · -- sixty turns
          refine ⟨60, rfl, by decide, by decide, ?_⟩
          refine for_range (lo := 0) (n := 60) (fun j σ H4 => ∃ (x6 x7 : Option V) (c : Int) (es : List Int), σ = [some (.ref l), some (.int (a : Nat)), some (.int (b : Nat)), some (.ref D), some (.int ((a : Int) + i)), some (.int c), x6, x7] ∧
            Same H H4 ∧ H4 D = some (.lst (es.map V.int)) ∧ es.length ≤ ds.length + j) ⟨_, _, _, ds, rfl, sm, hD, Nat.le_refl _⟩ ?_ ?_
          · rintro j σ H4 hj ⟨x6, x7, c, es, rfl, sm4, hD4, few4⟩
            refine ⟨_, rfl, _, _, rfl, rfl, _, rfl, ite2 (fun _ => ?_) (fun _ => ?_)⟩
            · refine ⟨.ref D, rfl, .inl ⟨rfl, _, .inl (.inl hD4)⟩, _, rfl, .inl ⟨_, rfl, ?_⟩⟩
              refine ⟨_, _, rfl, rfl, (by show (0 : Int) < 1000; decide), D, _, _, rfl, rfl, hD4, small5 (by rw [List.length_map]; omega), ?_⟩
              exact ⟨_, rfl, _, _, rfl, rfl, ⟨by decide, by decide⟩, _, _, _, es ++ [c % 1000], rfl, appd _ hD4 sm4, by rw [upd_same, List.map_append]; rfl, by rw [List.length_append]; simp only [List.length_singleton]; omega⟩
            · exact ⟨_, _, _, es, rfl, sm4, hD4, by omega⟩
          · rintro σ H4 ⟨x6, x7, c, es, rfl, sm4, hD4, few4⟩
            exact ⟨_, _, _, _, es, rfl, sm4, hD4, by omega⟩
        · -- twelve turns
          refine ⟨_, rfl, _, _, rfl, rfl, .inr ⟨by decide, by decide⟩, _, rfl, _, _, rfl, rfl, .inr ⟨by decide, by decide⟩, _, _, rfl, rfl, _, _, rfl, rfl, .inl ⟨_, rfl, ?_⟩⟩
          refine ⟨_, _, rfl, rfl, (by show (0 : Int) < 2147483399; decide), ?_⟩
          refine ⟨12, rfl, by decide, by decide, ?_⟩
          refine for_range (lo := 0) (n := 12) (fun j σ H4 => ∃ (x5 x6 : Option V) (c : Int) (es : List Int), σ = [some (.ref l), some (.int (a : Nat)), some (.int (b : Nat)), some (.ref D), some (.int ((a : Int) + i)), x5, x6, some (.int c)] ∧
            Same H H4 ∧ H4 D = some (.lst (es.map V.int)) ∧ es.length ≤ ds.length + j) ⟨_, _, _, ds, rfl, sm, hD, Nat.le_refl _⟩ ?_ ?_
          · rintro j σ H4 hj ⟨x5, x6, c, es, rfl, sm4, hD4, few4⟩
            refine ⟨_, rfl, _, _, rfl, rfl, .inr ⟨by decide, by decide⟩, _, rfl, _, _, rfl, rfl, .inl ⟨by decide, by decide⟩, _, _, rfl, rfl, _, _, rfl, rfl, .inl ⟨_, rfl, ?_⟩⟩
            refine ⟨_, _, rfl, rfl, (by show (0 : Int) < 2147483563; decide), ?_⟩
            refine ⟨.ref D, rfl, .inl ⟨rfl, _, .inl (.inl hD4)⟩, _, rfl, _, _, rfl, rfl, ⟨by decide, by decide⟩, .inl ⟨_, rfl, ?_⟩⟩
            refine ⟨_, _, rfl, rfl, (by show (0 : Int) < 1000; decide), D, _, _, rfl, rfl, hD4, small5 (by rw [List.length_map]; omega), ?_⟩
            exact ⟨_, _, _, es ++ [_], rfl, appd _ hD4 sm4, by rw [upd_same, List.map_append]; rfl, by rw [List.length_append]; simp only [List.length_singleton]; omega⟩
          · rintro σ H4 ⟨x5, x6, c, es, rfl, sm4, hD4, few4⟩
            exact ⟨_, _, _, _, es, rfl, sm4, hD4, by omega⟩
    · rintro σ H3 ⟨y4, y5, y6, y7, ds, rfl, sm, hD, few⟩
      exact ⟨.ref D, rfl, q H3 D ds sm nD hD (by omega)⟩
end
end K06

namespace K06
open PySem PySem.Spec PyProof.Rows L2 Pg
theorem seqT_same {K : PySem.W.Frag} {H H' : Hp} {a : Addr} {xs : List V} (e : Same H H') (h : SqT K H a xs) : SqT K H' a xs := by
  rcases h with (h | ⟨o, h⟩) | h
  · exact .inl (.inl (e _ _ h))
  · exact .inl (.inr ⟨o, e _ _ h⟩)
  · exact .inr h
theorem yes {σ : L2.St} {H : Hp} {Q : Bool → Hp → Prop} (h : Q true H) : tYes σ H Q := h
theorem Drew.pre {b : Addr} {H H1 H2 : Hp} (s : Same H H1) (x : Drew b H1 H2) : Drew b H H2 := ⟨x.box, fun d e => x.dig d (e.same s), fun p o n e => x.keep p o n (s _ _ e)⟩
theorem at_in {xs : List V} {r : Int} (h0 : 0 ≤ r) (h1 : r < xs.length) : ∃ v, v ∈ xs ∧ atI xs r = some v := by
  obtain ⟨j, rfl⟩ := Int.eq_ofNat_of_zero_le h0
  have lt : j < xs.length := by omega
  exact ⟨xs[j], List.getElem_mem lt, atI_nat (List.getElem?_eq_getElem lt)⟩
/-- plain signs, without the percent sign -/
def plainB (c : Nat) : Bool := decide (32 ≤ c ∧ c ≤ 126 ∧ c ≠ 37)
/-- .. and without the double quote -/
def safeB (c : Nat) : Bool := plainB c && decide (c ≠ 34)
def Plain (z : Str) : Prop := ∀ c ∈ z.cps.toList, plainB c = true
def Safe (z : Str) : Prop := ∀ c ∈ z.cps.toList, safeB c = true
theorem Safe.plain {z : Str} (h : Safe z) : Plain z := fun c hc => (Bool.and_eq_true_iff.mp (h c hc)).1
theorem app_codes (x y : Str) : (x ++ y).cps.toList = x.cps.toList ++ y.cps.toList := by
  show (x.cps ++ y.cps).toList = _
  rw [Array.toList_append]
theorem Safe.app {x y : Str} (a : Safe x) (b : Safe y) : Safe (x ++ y) := fun c hc => by
  rw [app_codes] at hc
  rcases List.mem_append.mp hc with h | h
  · exact a c h
  · exact b c h
theorem Plain.app {x y : Str} (a : Plain x) (b : Plain y) : Plain (x ++ y) := fun c hc => by
  rw [app_codes] at hc
  rcases List.mem_append.mp hc with h | h
  · exact a c h
  · exact b c h
theorem len_app (x y : Str) : (x ++ y).length = x.length + y.length := by
  show (x.cps ++ y.cps).size = _
  rw [Array.size_append]
  rfl
theorem len_codes (z : Str) : z.length = z.cps.toList.length := by simp [Str.length]
theorem safe_of {z : Str} (h : z.cps.toList.all safeB = true) : Safe z := fun c hc => List.all_eq_true.mp h c hc
/-- the first n signs -/
theorem cut_to (z : Str) (n : Nat) : (cutS z none (some (n : Int))).cps.toList = z.cps.toList.take n := by
  unfold cutS
  rw [HT.sIx_none, show HT.sIx z.length z.length (some (n : Int)) = min n z.length from HT.sIx_nat z.length z.length n]
  show List.take (min n z.length - 0) (List.drop 0 z.cps.toList) = _
  rw [List.drop_zero, Nat.sub_zero, len_codes, List.take_eq_take_iff]
  omega
theorem sizeLine_big {n : Nat} (h : n ≤ 1000000) : n ≤ sizeLine := Nat.le_trans h (by decide)
/-- data that repr shows -/
structure Shows (d : PyData) : Prop where
  ok : d.showable = true
  nd : d.hasDict = false
  dep : d.depth ≤ 40
  sz : d.shown.length ≤ sizeLine
def spAlike (K : PySem.W.Frag) : Sp := fun vs H Q _ => ∃ (x y : V) (d e : PyData), vs = [x, y] ∧ Dp K H x d ∧ Dp K H y e ∧ Shows d ∧ Shows e ∧ Q (.bl (decide (d.shown = e.shown))) H
theorem shows_int {i : Int} (h1 : -999999999999 ≤ i) (h2 : i ≤ 999999999999) : Shows (.int i) := by
  refine ⟨?_, rfl, by show 0 ≤ 40; decide, Nat.le_trans (PyData.shown_int_le2 h1 h2) (by decide)⟩
  show decide (i.natAbs.log2 < 1920) = true
  refine decide_eq_true ?_
  by_cases z : i.natAbs = 0
  · rw [z]
    decide
  · refine (Nat.log2_lt z).mpr (Nat.lt_of_lt_of_le (show i.natAbs < 2 ^ 40 by omega) (Nat.pow_le_pow_right (n := 2) (by decide) (by decide)))
theorem shows_int2 {i j : Int} (h1 : -999999999999 ≤ i) (h2 : i ≤ 999999999999) (h3 : -999999999999 ≤ j) (h4 : j ≤ 999999999999) : Shows (.tuple [.int i, .int j]) := by
  have a := (shows_int h1 h2).ok
  have b := (shows_int h3 h4).ok
  refine ⟨?_, rfl, by show 1 ≤ 40; decide, PyData.shown_fits_bulk (B := 13) (by decide) (by decide) ?_ (by show 0 + 1 + (0 + 1 + 0) ≤ 2 ^ 20; decide)⟩
  · simp only [PyData.showable, PyData.showableAll] at a b ⊢
    rw [a, b]
    rfl
  · simp only [PyData.leavesShort, PyData.leavesShortAll, PyData.shown_int_le2 h1 h2, PyData.shown_int_le2 h3 h4, decide_true, Bool.and_true]
section
variable {P : Program} {w : World} {K : PySem.W.Frag} {mg : Str → Option Value} {base : Heap} {f : Addr} {fd : FuncData}
theorem ok_law_alike (F : Fun K "_law_alike" "_law_alike" s_law_alike f fd) (z : Z mg) : FnG P w K mg base 1 f fd ["one", "two"] (spAlike K) := by
  refine FnG.mk' F sc_law_alike (fun vs H Q E h => ?_) (fun cdv A outer s H vs Q gd hr h => ?_)
  · obtain ⟨x, y, d, e, rfl, _⟩ := h
    rfl
  · obtain ⟨x, y, d, e, rfl, hd, he, gd1, gd2, q⟩ := h
    refine ⟨_, (pss_one (ps_ret (pe_cmpR op_eq (pe_callB (call_reprD gd hr.units) (by rfl) z.repr (by decide +kernel) (pa_cons (pv 0) pa_nil)) (pe_callB (call_reprD gd hr.units) (by rfl) z.repr (by decide +kernel) (pa_cons (pv 1) pa_nil)) (nomark _)))), ?_⟩
    refine ⟨x, rfl, x, d, rfl, hd, gd1.ok, gd1.nd, gd1.dep, gd1.sz, y, rfl, y, e, rfl, he, gd2.ok, gd2.nd, gd2.dep, gd2.sz, rfl, ?_⟩
    have eq : decide (V.str d.shown = V.str e.shown) = decide (d.shown = e.shown) := by
      by_cases h : d.shown = e.shown
      · rw [decide_eq_true h, h]
        exact decide_eq_true rfl
      · rw [decide_eq_false h]
        exact decide_eq_false fun e => h (V.str.inj e)
    show Q (.bl (decide (V.str d.shown = V.str e.shown))) H
    rw [eq]
    exact q
end
end K06

namespace K06
open PySem PySem.Spec PyProof.Rows L2 Pg
/-- a rendering -/
structure Row where
  n : Str
  t : Str
  fs : List PyData
  r : PyData
def Row.d (x : Row) : PyData := .tuple [.str x.n, .str x.t, .tuple x.fs, x.r]
/-- a name with its renderings in the dict -/
def RowAt (K : PySem.W.Frag) (H : Hp) (a : Str × Addr) (b : Str × List Row) : Prop := a.1 = b.1 ∧ LAt K H a.2 (b.2.map Row.d)
def RowsAt (K : PySem.W.Frag) (H : Hp) : List (Str × Addr) → List (Str × List Row) → Prop
  | [], [] => True
  | a :: r, b :: s => RowAt K H a b ∧ RowsAt K H r s
  | _, _ => False
/-- what holds of the renderings that are kept -/
structure CFine (cs : List (Str × List Row)) : Prop where
  nd : (cs.map (·.1)).Nodup
  few : ∀ p ∈ cs, p.2.length ≤ 4
  ok : ∀ p ∈ cs, ∀ x ∈ p.2, Pd 6 5000 x.d ∧ x.n = p.1
/-- a cache at p, its dict at d -/
def CAt (K : PySem.W.Frag) (C : Addr) (H : Hp) (p d : Addr) (cs : List (Str × List Row)) : Prop :=
  ∃ dx kvs, H p = some (.ins C dx [(("_renderings" : Str), .ref d)]) ∧ H d = some (.dK (enc V.ref kvs)) ∧ RowsAt K H kvs cs ∧ CFine cs ∧ cs.length ≤ 1000
def rowsC (cs : List (Str × List Row)) (k : Str) : List Row := (getS cs k).getD []
def addC (cs : List (Str × List Row)) (x : Row) : List (Str × List Row) := putS cs x.n ((x :: (rowsC cs x.n).filter fun y => !PyData.eqv y.d x.d).take 4)
def keepC (cs : List (Str × List Row)) (names : List Str) : List (Str × List Row) := cs.filter fun p => decide (p.1 ∈ names)
def findC (rows : List Row) (t : Str) (fs : List PyData) : PyData := ((rows.find? fun y => PyData.eqv (.tuple [.str y.t, .tuple y.fs]) (.tuple [.str t, .tuple fs])).map Row.r).getD .none
theorem CFine.tail {b : Str × List Row} {cs : List (Str × List Row)} (f : CFine (b :: cs)) : CFine cs := ⟨(List.nodup_cons.mp f.nd).2, fun p hp => f.few p (List.mem_cons_of_mem _ hp), fun p hp => f.ok p (List.mem_cons_of_mem _ hp)⟩
theorem CFine.nil : CFine [] := ⟨List.nodup_nil, fun p h => (by cases h), fun p h => (by cases h)⟩
theorem RowsAt.keep {K : PySem.W.Frag} {H H' : Hp} : ∀ {kvs : List (Str × Addr)} {cs : List (Str × List Row)}, RowsAt K H kvs cs → CFine cs → KeepT K H H' → (∀ a ∈ kvs, ∀ o, H a.2 = some o → H' a.2 = some o) → RowsAt K H' kvs cs
  | [], [], _, _, _, _ => trivial
  | [], _ :: _, r, _, _, _ => r.elim
  | _ :: _, [], r, _, _, _ => r.elim
  | a :: kvs, b :: cs, ⟨⟨h1, vs, h2, h3⟩, r⟩, f, k, e => by
    have pd : PdA 6 (4 * (5000 + 1)) (b.2.map Row.d) := PdA.all (fun d hd => by
      obtain ⟨x, hx, rfl⟩ := List.mem_map.mp hd
      exact (f.ok b List.mem_cons_self x hx).1) (by rw [List.length_map]; exact f.few b List.mem_cons_self)
    exact ⟨⟨h1, vs, e a List.mem_cons_self _ h2, pd.keep k h3⟩, RowsAt.keep r f.tail k fun x hx => e x (List.mem_cons_of_mem _ hx)⟩
theorem CAt.same {K : PySem.W.Frag} {C : Addr} {H H' : Hp} {p d : Addr} {cs : List (Str × List Row)} (c : CAt K C H p d cs) (s : Same H H') : CAt K C H' p d cs :=
  let ⟨dx, kvs, h1, h2, h3, h4, h5⟩ := c
  ⟨dx, kvs, s _ _ h1, s _ _ h2, h3.keep h4 (Same.keepT s) fun _ _ o e => s _ o e, h4, h5⟩
theorem RowsAt.get {K : PySem.W.Frag} {H : Hp} : ∀ {kvs : List (Str × Addr)} {cs : List (Str × List Row)} (k : Str), RowsAt K H kvs cs → (getS kvs k = none ∧ getS cs k = none) ∨ ∃ a rs, getS kvs k = some a ∧ getS cs k = some rs ∧ LAt K H a (rs.map Row.d)
  | [], [], k, _ => .inl ⟨rfl, rfl⟩
  | [], _ :: _, _, r => r.elim
  | _ :: _, [], _, r => r.elim
  | a :: kvs, b :: cs, k, ⟨⟨h1, h2⟩, r'⟩ => by
    by_cases e : a.1 = k
    · exact .inr ⟨a.2, b.2, by rw [getS, if_pos e], by rw [getS, if_pos (by rw [← h1]; exact e)], h2⟩
    · rcases RowsAt.get k r' with ⟨e1, e2⟩ | ⟨x, y, e1, e2, e3⟩
      · exact .inl ⟨by rw [getS, if_neg e, e1], by rw [getS, if_neg (by rw [← h1]; exact e), e2]⟩
      · exact .inr ⟨x, y, by rw [getS, if_neg e, e1], by rw [getS, if_neg (by rw [← h1]; exact e), e2], e3⟩
theorem RowsAt.len {K : PySem.W.Frag} {H : Hp} : ∀ {kvs : List (Str × Addr)} {cs : List (Str × List Row)}, RowsAt K H kvs cs → kvs.length = cs.length
  | [], [], _ => rfl
  | [], _ :: _, r => r.elim
  | _ :: _, [], r => r.elim
  | _ :: _, _ :: _, ⟨_, r⟩ => congrArg (· + 1) (RowsAt.len r)
theorem RowsAt.map {K : PySem.W.Frag} {H : Hp} {S : Addr} {k : Str} {rs : List Row} (l : LAt K H S (rs.map Row.d)) : ∀ {kvs : List (Str × Addr)} {cs : List (Str × List Row)}, RowsAt K H kvs cs →
    RowsAt K H (kvs.map fun q => if q.1 = k then (q.1, S) else q) (cs.map fun q => if q.1 = k then (q.1, rs) else q)
  | [], [], _ => trivial
  | [], _ :: _, r => r.elim
  | _ :: _, [], r => r.elim
  | a :: kvs, b :: cs, ⟨⟨h1, h2⟩, r⟩ => by
    refine ⟨?_, RowsAt.map l r⟩
    show RowAt K H (if a.1 = k then (a.1, S) else a) (if b.1 = k then (b.1, rs) else b)
    by_cases e : a.1 = k
    · rw [if_pos e, if_pos (by rw [← h1]; exact e)]
      exact ⟨h1, l⟩
    · rw [if_neg e, if_neg (by rw [← h1]; exact e)]
      exact ⟨h1, h2⟩
theorem RowsAt.put {K : PySem.W.Frag} {H : Hp} {S : Addr} {k : Str} {rs : List Row} (l : LAt K H S (rs.map Row.d)) : ∀ {kvs : List (Str × Addr)} {cs : List (Str × List Row)}, RowsAt K H kvs cs → RowsAt K H (putS kvs k S) (putS cs k rs)
  | [], [], _ => ⟨⟨rfl, l⟩, trivial⟩
  | [], _ :: _, r => r.elim
  | _ :: _, [], r => r.elim
  | a :: kvs, b :: cs, ⟨⟨h1, h2⟩, r⟩ => by
    rw [putS, putS]
    by_cases e : a.1 = k
    · rw [if_pos e, if_pos (by rw [← h1]; exact e)]
      exact ⟨⟨h1, l⟩, RowsAt.map l r⟩
    · rw [if_neg e, if_neg (by rw [← h1]; exact e)]
      exact ⟨⟨h1, h2⟩, RowsAt.put l r⟩
theorem RowsAt.keys {K : PySem.W.Frag} {H : Hp} : ∀ {kvs : List (Str × Addr)} {cs : List (Str × List Row)}, RowsAt K H kvs cs → kvs.map (·.1) = cs.map (·.1)
  | [], [], _ => rfl
  | [], _ :: _, r => r.elim
  | _ :: _, [], r => r.elim
  | a :: kvs, b :: cs, ⟨⟨h1, _⟩, r⟩ => by rw [List.map_cons, List.map_cons, h1, RowsAt.keys r]
theorem RowsAt.at_ {K : PySem.W.Frag} {H : Hp} : ∀ {kvs : List (Str × Addr)} {cs : List (Str × List Row)} {i : Nat} {a : Str × Addr}, RowsAt K H kvs cs → kvs[i]? = some a → ∃ b, cs[i]? = some b ∧ RowAt K H a b
  | a :: kvs, b :: cs, 0, x, ⟨h, _⟩, e => ⟨b, rfl, by rw [← Option.some.inj e]; exact h⟩
  | a :: kvs, b :: cs, i + 1, x, ⟨_, r⟩, e => RowsAt.at_ (i := i) r e
theorem RowsAt.snoc {K : PySem.W.Frag} {H : Hp} {x : Str × Addr} {y : Str × List Row} (h : RowAt K H x y) : ∀ {kvs : List (Str × Addr)} {cs : List (Str × List Row)}, RowsAt K H kvs cs → RowsAt K H (kvs ++ [x]) (cs ++ [y])
  | [], [], _ => ⟨h, trivial⟩
  | [], _ :: _, r => r.elim
  | _ :: _, [], r => r.elim
  | a :: kvs, b :: cs, ⟨h1, r⟩ => ⟨h1, RowsAt.snoc h r⟩
theorem rows_filter {K : PySem.W.Frag} {H : Hp} (names : List Str) : ∀ {kvs : List (Str × Addr)} {cs : List (Str × List Row)}, RowsAt K H kvs cs → RowsAt K H (kvs.filter fun a => decide (a.1 ∈ names)) (keepC cs names)
  | [], [], _ => trivial
  | [], _ :: _, r => r.elim
  | _ :: _, [], r => r.elim
  | a :: kvs, b :: cs, ⟨⟨h1, h2⟩, r⟩ => by
    unfold keepC
    rw [List.filter_cons, List.filter_cons]
    by_cases e : a.1 ∈ names
    · rw [if_pos (decide_eq_true e), if_pos (decide_eq_true (by rw [← h1]; exact e))]
      exact ⟨⟨h1, h2⟩, rows_filter names r⟩
    · rw [if_neg (by simpa using e), if_neg (by rw [← h1]; simpa using e)]
      exact rows_filter names r
theorem CFine.put {cs : List (Str × List Row)} (f : CFine cs) {k : Str} {rs : List Row} (l : rs.length ≤ 4) (ok : ∀ x ∈ rs, Pd 6 5000 x.d ∧ x.n = k) : CFine (putS cs k rs) := by
  refine ⟨nodup_put k rs f.nd, fun p hp => ?_, fun p hp => ?_⟩
  · rcases mem_put hp with rfl | h
    · exact l
    · exact f.few p h
  · rcases mem_put hp with rfl | h
    · exact ok
    · exact f.ok p h
theorem CFine.filter {cs : List (Str × List Row)} (f : CFine cs) (q : Str × List Row → Bool) : CFine (cs.filter q) := by
  refine ⟨?_, fun p hp => f.few p (List.mem_filter.mp hp).1, fun p hp => f.ok p (List.mem_filter.mp hp).1⟩
  exact f.nd.sublist (List.Sublist.map _ List.filter_sublist)
theorem row_parts {K : PySem.W.Frag} {H : Hp} {v : V} {x : Row} (h : Dp K H v x.d) : ∃ a v2 v3, v = .ref a ∧ SqT K H a [.str x.n, .str x.t, v2, v3] ∧ Dp K H v2 (.tuple x.fs) ∧ Dp K H v3 x.r := by
  unfold Row.d at h
  cases h with
  | tup hs ha =>
    cases ha with
    | cons a1 ha =>
      cases ha with
      | cons a2 ha =>
        cases ha with
        | cons a3 ha =>
          cases ha with
          | cons a4 ha =>
            cases ha
            cases a1
            cases a2
            exact ⟨_, _, _, rfl, hs, a3, a4⟩
theorem rowsC_fine {cs : List (Str × List Row)} (f : CFine cs) (k : Str) : (rowsC cs k).length ≤ 4 ∧ ∀ x ∈ rowsC cs k, Pd 6 5000 x.d ∧ x.n = k := by
  unfold rowsC
  cases e : getS cs k with
  | none => exact ⟨Nat.zero_le _, fun x hx => by cases hx⟩
  | some rs =>
    have m := get_some e
    exact ⟨f.few _ m, fun x hx => f.ok _ m x hx⟩
theorem addC_fine {cs : List (Str × List Row)} (f : CFine cs) {x : Row} (hx : Pd 6 5000 x.d) : CFine (addC cs x) := by
  refine f.put ?_ fun y hy => ?_
  · rw [List.length_take]
    omega
  · rcases List.mem_cons.mp (List.mem_of_mem_take hy) with rfl | h
    · exact ⟨hx, rfl⟩
    · exact (rowsC_fine f x.n).2 y (List.mem_filter.mp h).1
theorem rows_pd {cs : List (Str × List Row)} (f : CFine cs) (k : Str) : PdA 6 (4 * (5000 + 1)) ((rowsC cs k).map Row.d) :=
  PdA.all (n := 4) (fun d hd => by
    obtain ⟨x, hx, rfl⟩ := List.mem_map.mp hd
    exact ((rowsC_fine f k).2 x hx).1) (by rw [List.length_map]; exact (rowsC_fine f k).1)
theorem filt_pd {cs : List (Str × List Row)} (f : CFine cs) (k : Str) (q : Row → Bool) (i : Nat) : PdA 6 (4 * (5000 + 1)) ((((rowsC cs k).take i).filter q).map Row.d) := by
  have h : ∀ d ∈ (((rowsC cs k).take i).filter q).map Row.d, Pd 6 5000 d := by
    intro d hd
    obtain ⟨y2, hy2, rfl⟩ := List.mem_map.mp hd
    have h2 := (List.mem_filter.mp hy2).1
    exact ((rowsC_fine f k).2 y2 (List.mem_of_mem_take h2)).1
  refine PdA.all (n := 4) h ?_
  rw [List.length_map]
  exact Nat.le_trans (List.length_filter_le _ _) (Nat.le_trans (List.length_take_le' _ _) (rowsC_fine f k).1)
def spCInit (K : PySem.W.Frag) (C : Addr) : Sp := fun vs H Q _ => ∃ (p dx : Addr), vs = [.ref p] ∧ H p = some (.ins C dx []) ∧ ∀ (d : Addr) (H' : Hp), H d = none → CAt K C H' p d [] → (∀ b o, H b = some o → b ≠ p → H' b = some o) → Q .non H'
def spCRen (K : PySem.W.Frag) (C : Addr) : Sp := fun vs H Q _ => ∃ (p d : Addr) (cs : List (Str × List Row)) (k : Str), vs = [.ref p, .str k] ∧ CAt K C H p d cs ∧ ∀ (H' : Hp) (l : Addr), Same H H' → H l = none → LAt K H' l ((rowsC cs k).map Row.d) → Q (.ref l) H'
def spCAdd (K : PySem.W.Frag) (C : Addr) : Sp := fun vs H Q _ => ∃ (p d : Addr) (cs : List (Str × List Row)) (v : V) (x : Row), vs = [.ref p, v] ∧ CAt K C H p d cs ∧ Dp K H v x.d ∧ Pd 6 5000 x.d ∧ cs.length < 1000 ∧
  ∀ H', CAt K C H' p d (addC cs x) → (∀ b o, H b = some o → b ≠ d → H' b = some o) → Q .non H'
def spCKeep (K : PySem.W.Frag) (C : Addr) : Sp := fun vs H Q _ => ∃ (p d : Addr) (cs : List (Str × List Row)) (l : Addr) (names : List Str), vs = [.ref p, .ref l] ∧ CAt K C H p d cs ∧ SqL K H l (names.map V.str) ∧
  ∀ H' d', H d' = none → CAt K C H' p d' (keepC cs names) → (∀ b o, H b = some o → b ≠ p → H' b = some o) → Q .non H'
def spCFind (K : PySem.W.Frag) (C : Addr) : Sp := fun vs H Q _ => ∃ (p d : Addr) (cs : List (Str × List Row)) (k t : Str) (l : Addr) (fs : List PyData), vs = [.ref p, .str k, .str t, .ref l] ∧ CAt K C H p d cs ∧ Codes t ∧ t.length ≤ 1000 ∧ LAt K H l fs ∧ PdA 4 3000 fs ∧
  ∀ H' v, Same H H' → Dp K H' v (findC (rowsC cs k) t fs) → Q v H'
section
variable {P : Program} {w : World} {K : PySem.W.Frag} {mg : Str → Option Value} {base : Heap} {f CCache : Addr} {fd : FuncData}
theorem ok_Cache_init (F : Fun K "__init__" "Cache.__init__" s_Cache_init f fd) (z : Z mg) (T : T_Cache K mg CCache) : FnOk P w K mg base CX0 1 f fd ["self"] (spCInit K CCache) := by
  refine F.ok sc_Cache_init (fun vs H Q E h => ?_) (fun cdv A outer s H vs Q E hr h => ?_)
  · obtain ⟨p, dx, rfl, _⟩ := h
    rfl
  · obtain ⟨p, dx, rfl, hp, q⟩ := h
    refine ⟨_, (pss_one (ps_fld (pv 0) pe_dnewK rfl)), ?_⟩
    intro d hd
    have npd : p ≠ d := ne_of_none hp hd
    refine ⟨_, rfl, p, CCache, dx, [], rfl, (by rw [upd_ne npd]; exact hp), T.cl, T.n_renderings, (by show 0 < 1000; decide), ?_⟩
    refine q d _ hd ⟨dx, [], upd_same, by rw [upd_ne npd.symm, upd_same]; rfl, trivial, CFine.nil, by decide⟩ fun b o e hb => ?_
    rw [upd_ne hb, upd_ne (ne_of_none e hd)]
    exact e
theorem ok_Cache_renderings (F : Fun K "renderings" "Cache.renderings" s_Cache_renderings f fd) (z : Z mg) (T : T_Cache K mg CCache) : FnOk P w K mg base CX0 1 f fd ["self", "name"] (spCRen K CCache) := by
  refine F.ok sc_Cache_renderings (fun vs H Q E h => ?_) (fun cdv A outer s H vs Q E hr h => ?_)
  · obtain ⟨p, d, cs, k, rfl, _⟩ := h
    rfl
  · obtain ⟨p, d, cs, k, rfl, ⟨dx, kvs, h1, h2, h3, h4, h5⟩, q⟩ := h
    refine ⟨_, (pss_one (ps_ret (pe_callTy call_list_of (by rfl) z.list (by decide +kernel) (pa_cons (pe_dget2 (hu_of hr) (pe_fld (pv 0) rfl) (pv 1) (pe_lst pa_nil) ⟨by rfl, by rfl, by rfl, by rfl⟩) pa_nil)))), ?_⟩
    refine ⟨_, rfl, p, CCache, dx, _, _, rfl, h1, T.cl, T.n_renderings, rfl, d, rfl, .inl ⟨_, .inl h2⟩, _, rfl, Nat.zero_le _, fun e ne => ?_⟩
    refine ⟨_, DGet.k (k := Sum.inr k) (same_new ne _ _ h2), ?_⟩
    have pd := rows_pd h4 k
    rw [valV_enc]
    rcases h3.get k with ⟨e1, e2⟩ | ⟨a, rs, e1, e2, vs, e3, e4⟩
    · rw [e1]
      refine ⟨e, [], rfl, .inl (.inl (.inl upd_same)), fun l nl => ?_⟩
      have : rowsC cs k = [] := by unfold rowsC; rw [e2]; rfl
      refine q _ l ((same_new ne).trans (same_new nl)) ((same_new ne).free nl) ?_
      rw [this]
      exact ⟨[], upd_same, .nil⟩
    · rw [e1]
      have er : rowsC cs k = rs := by unfold rowsC; rw [e2]; rfl
      rw [er] at pd
      refine ⟨a, vs, rfl, .inl (.inl (.inl (same_new ne _ _ e3))), fun l nl => ?_⟩
      have sm := (same_new (o := .lst []) ne).trans (same_new (o := .lst vs) nl)
      refine q _ l sm ((same_new ne).free nl) ?_
      rw [er]
      exact ⟨vs, upd_same, pd.keep (Same.keepT sm) e4⟩
theorem ok_Cache_add (F : Fun K "add" "Cache.add" s_Cache_add f fd) (z : Z mg) (T : T_Cache K mg CCache) (cCache_renderings : CalM P w K mg base CCache "renderings" 1 ["self", "name"] (spCRen K CCache)) :
    FnOk P w K mg base CX0 2 f fd ["self", "rendering"] (spCAdd K CCache) := by
  refine F.ok sc_Cache_add (fun vs H Q E h => ?_) (fun cdv A outer s H vs Q E hr h => ?_)
  · obtain ⟨p, d, cs, v, x, rfl, _⟩ := h
    rfl
  · obtain ⟨p, d, cs, v, x, rfl, ca, hx, px, few, q⟩ := h
    refine ⟨_, (pss_cons (ps_set (i := 2) sc_Cache_add.nd rfl (Or.inl rfl) (pe_ix ix_tup (pv 1) pe_int (fun _ _ => rfl)))
      (pss_cons (ps_setLc (i := 3) (own := [("other", 4)]) (g := (gName 4)) rfl sc_Cache_add.nd rfl rfl (sw_true rfl rfl rfl (by decide +kernel)) (pi_list (pe_calM cCache_renderings (hr.mono (by decide)) (pv 0) (pa_cons (pv 2) pa_nil))) (blkOk_by (own := [("other", 4)]) (N := ["self", "rendering", "name", "others", "other"]) (sc := defScope s_Cache_add) (by decide +kernel)) (fun _ _ _ _ _ => pg_name (i := 4) sc_Cache_add.nd rfl (Or.inl rfl)) (fun _ _ _ _ _ => (pts_one (pt_cmpR (op_neDK (K := K) rfl hr.units) (pv 4) (pv 1) (nomark _)))) (fun _ _ _ _ _ => (pv 4)))
      (pss_one (ps_dput (hu_of hr) (pe_fld (pv 0) rfl) (pv 2) (pe_slice sl_list (pe_op op_cat (pe_lst (pa_cons (pv 1) pa_nil)) (pv 3)) po_none (po_some (pe_cI (by rfl) z.c_RENDERINGS_MOST))) rfl)))), ?_⟩
    obtain ⟨a, v2, v3, rfl, ha, _, _⟩ := row_parts hx
    have ca' := ca
    obtain ⟨dx, kvs, h1, h2, h3, h4, h5⟩ := ca'
    refine ⟨_, rfl, a, _, _, .str x.n, rfl, rfl, ha, atI_nat (j := 0) rfl, ?_⟩
    refine ⟨_, rfl, p, dx, _, rfl, h1, rfl, _, rfl, p, d, cs, x.n, rfl, ca, fun H1 l s1 nl hl => ?_⟩
    obtain ⟨vs, hl1, hl2⟩ := hl
    refine ⟨l, rfl, ⟨_, .inl (.inl hl1)⟩, fun D nD => ?_⟩
    have pdr := rows_pd h4 x.n
    have nD0 := s1.free nD
    have lenr := (rowsC_fine h4 x.n).1
    have lenv : vs.length = (rowsC cs x.n).length := by rw [dpAll_len hl2, List.length_map]
    refine lc_list (K := K) (a := l) (xs := vs) (fun i H' => Same H1 H' ∧ ∃ ws, H' D = some (.lst ws) ∧ ws.length ≤ i ∧ DpAll K H' ws ((((rowsC cs x.n).take i).filter fun y => !PyData.eqv y.d x.d).map Row.d))
      ⟨same_new nD, [], upd_same, Nat.le_refl _, .nil⟩ (fun i H' _ ⟨s2, _⟩ => .inl (.inl (s2 _ _ hl1))) ?_ ?_
    · rintro i y H' hy ⟨s2, ws, hD, lw, da⟩
      obtain ⟨y', hy', dy⟩ := dpAll_get' hl2 hy
      rw [List.getElem?_map] at hy'
      obtain ⟨yr, hyr, rfl⟩ : ∃ yr, (rowsC cs x.n)[i]? = some yr ∧ yr.d = y' := by
        cases e : (rowsC cs x.n)[i]? with
        | none => rw [e] at hy'; cases hy'
        | some yr => rw [e] at hy'; exact ⟨yr, rfl, Option.some.inj hy'⟩
      have pdy := ((rowsC_fine h4 x.n).2 yr (List.mem_of_getElem? hyr)).1
      have il : i < vs.length := (List.getElem?_eq_some_iff.mp hy).1
      have tk : (rowsC cs x.n).take (i + 1) = (rowsC cs x.n).take i ++ [yr] := by rw [List.take_add_one, hyr]; rfl
      refine ⟨rfl, _, rfl, _, rfl, yr.d, x.d, pdy.keep (Same.keepT s2) dy, px.keep (Same.keepT (s1.trans s2)) hx, pdy.sz.shaped (by decide), px.sz.shaped (by decide), _, rfl, ite2 (fun e => ?_) (fun e => ?_)⟩
      · have s3 : Same H1 (upd H' D (.lst (ws ++ [y]))) := fun q o e2 => by
          rw [upd_ne (ne_of_none e2 nD)]
          exact s2 _ _ e2
        have kt : KeepT K H' (upd H' D (.lst (ws ++ [y]))) := KeepT.upd (by rw [hD]; intro xs h; cases h) (by rw [hD]; intro b xs h; cases h)
        have pdt := filt_pd h4 x.n (fun y => !PyData.eqv y.d x.d) i
        refine ⟨_, rfl, ws, hD, small5 (by omega), s3, ws ++ [y], upd_same, by rw [List.length_append]; show ws.length + 1 ≤ _; omega, ?_⟩
        rw [tk, List.filter_append, List.map_append]
        refine dpAll_app (pdt.keep kt da) ?_
        have : ([yr].filter fun y => !PyData.eqv y.d x.d) = [yr] := by
          rw [List.filter_cons, if_pos e]
          rfl
        rw [this]
        exact .cons (pdy.keep ((Same.keepT s2).trans kt) dy) .nil
      · refine ⟨s2, ws, hD, by omega, ?_⟩
        have : ([yr].filter fun y => !PyData.eqv y.d x.d) = [] := by
          rw [List.filter_cons, if_neg e]
          rfl
        rw [tk, List.filter_append, this, List.append_nil]
        exact da
    · rintro H2 ⟨s2, ws, hD, lw, da⟩
      rw [lenv, List.take_length] at da
      have s02 := s1.trans s2
      refine ⟨_, rfl, by show 1 ≤ sizeLine; decide, fun A nA => ?_⟩
      have sA : Same H2 (upd H2 A (.lst [.ref a])) := same_new nA
      refine ⟨_, rfl, A, D, _, _, rfl, rfl, upd_same, sA _ _ hD, sizeLine_big (by rw [lenv] at lw; show 1 + ws.length ≤ _; omega), fun B nB => ?_⟩
      have sB : Same H2 (upd (upd H2 A (.lst [.ref a])) B (.lst ([V.ref a] ++ ws))) := sA.trans (same_new nB)
      refine ⟨_, rfl, B, _, rfl, .inl (.inl upd_same), fun S nS => ?_⟩
      have cut : cutV ([V.ref a] ++ ws) none (some 4) = (V.ref a :: ws).take 4 := cutV_up _ 4
      rw [cut]
      have sS := s02.trans (sB.trans (same_new (o := .lst ((V.ref a :: ws).take 4)) nS))
      generalize hH3 : upd (upd (upd H2 A (.lst [.ref a])) B (.lst ([V.ref a] ++ ws))) S (.lst ((V.ref a :: ws).take 4)) = H3 at *
      have hS3 : H3 S = some (.lst ((V.ref a :: ws).take 4)) := by rw [← hH3]; exact upd_same
      have sB3 : Same H2 H3 := by rw [← hH3]; exact sB.trans (same_new nS)
      have pdf := filt_pd h4 x.n (fun y => !PyData.eqv y.d x.d) (rowsC cs x.n).length
      rw [List.take_length] at pdf
      have nS0 : H S = none := s02.free (sB.free nS)
      have neS : S ≠ d := (ne_of_none h2 nS0).symm
      refine ⟨_, rfl, p, CCache, dx, _, _, rfl, sS _ _ h1, T.cl, T.n_renderings, rfl, _, rfl, d, _, rfl, DPut.k (k := Sum.inr x.n) (sS _ _ h2) (small5 (by rw [show (enc V.ref kvs).length = kvs.length from List.length_map _, h3.len]; omega)), ?_⟩
      have h3d : H3 d = some (.dK (enc V.ref kvs)) := sS _ _ h2
      have kt : KeepT K H3 (upd H3 d (.dK (putK (enc V.ref kvs) (Sum.inr x.n) (.ref S)))) := KeepT.upd (by rw [h3d]; intro xs h; cases h) (by rw [h3d]; intro b xs h; cases h)
      refine q _ ⟨dx, putS kvs x.n S, ?_, ?_, ?_, addC_fine h4 px, ?_⟩ fun b o e hb => by rw [upd_ne hb]; exact sS _ _ e
      · rw [upd_ne (ne_of h1 h2 (by intro z; cases z))]
        exact sS _ _ h1
      · rw [upd_same, putK_enc]
      · have ktA : KeepT K H (upd H3 d (.dK (putK (enc V.ref kvs) (Sum.inr x.n) (.ref S)))) := (Same.keepT sS).trans kt
        refine RowsAt.put ⟨_, by rw [upd_ne neS]; exact hS3, ?_⟩ (h3.keep h4 ktA fun b hb o e => ?_)
        · have : DpAll K (upd H3 d (.dK (putK (enc V.ref kvs) (Sum.inr x.n) (.ref S)))) (V.ref a :: ws) ((x :: (rowsC cs x.n).filter fun y => !PyData.eqv y.d x.d).map Row.d) :=
            .cons (px.keep ktA hx) (pdf.keep ((Same.keepT sB3).trans kt) da)
          rw [List.map_take]
          exact dpAll_take 4 this
        · have nb : b.2 ≠ d := by
            rintro e2
            obtain ⟨i, hi⟩ := List.getElem?_of_mem hb
            obtain ⟨b2, _, _, vs2, hb2, _⟩ := h3.at_ hi
            rw [e2, h2] at hb2
            cases hb2
          rw [upd_ne nb]
          exact sS _ _ e
      · exact Nat.le_trans (len_put _ _ _) (by omega)
theorem ok_Cache_keep (F : Fun K "keep" "Cache.keep" s_Cache_keep f fd) (z : Z mg) (T : T_Cache K mg CCache) : FnOk P w K mg base CX0 1 f fd ["self", "names"] (spCKeep K CCache) := by
  refine F.ok sc_Cache_keep (fun vs H Q E h => ?_) (fun cdv A outer s H vs Q E hr h => ?_)
  · obtain ⟨p, d, cs, l, names, rfl, _⟩ := h
    rfl
  · obtain ⟨p, d, cs, l, names, rfl, ⟨dx, kvs, h1, h2, h3, h4, h5⟩, hl, q⟩ := h
    refine ⟨_, (pss_one (ps_fld (pv 0) (pe_lock (pe_dc (own := [("name", 2), ("kept", 3)]) (g := (gTup K 2 (gCons (gName 2) (gCons (gName 3) gNil)))) rfl sc_Cache_keep.nd (pi_items (pe_fld (pv 0) rfl)) (blkOk_by (own := [("name", 2), ("kept", 3)]) (N := ["self", "names", "name", "kept"]) (sc := defScope s_Cache_keep) (by decide +kernel)) (fun _ _ _ _ _ => (pg_tupK (K := K) rfl rfl (pgs_cons (pg_name (i := 2) sc_Cache_keep.nd rfl (Or.inl rfl)) (pgs_cons (pg_name (i := 3) sc_Cache_keep.nd rfl (Or.inl rfl)) pgs_nil)))) (fun _ _ _ _ _ => (pts_one (pt_cmpR (op_in_seqK (K := K) rfl) (pv 2) (pv 1) (by rfl)))) (fun _ _ _ _ _ => (pv 2)) (fun _ _ _ _ _ => (pv 3)))) rfl)), ?_⟩
    have npd : p ≠ d := ne_of h1 h2 (by intro z; cases z)
    refine ⟨d, _, h2, trivial, fun od => ?_⟩
    refine ⟨_, rfl, p, CCache, dx, _, _, rfl, by rw [upd_ne npd]; exact h1, T.cl, T.n_renderings, rfl, d, od, enc V.ref kvs, rfl, upd_same, fun D nD => ?_⟩
    have dD : d ≠ D := ne_of_none upd_same nD
    have nD0 : H D = none := by rw [upd_ne dD.symm] at nD; exact nD
    have lenk : (enc V.ref kvs).length = kvs.length := List.length_map _
    refine dc_items (d := d) (o := od) (kvs := enc V.ref kvs) (fun i H' => Same (upd H d (.frz od (.dK (enc V.ref kvs)))) H' ∧ H' D = some (.dK (enc V.ref ((kvs.take i).filter fun a => decide (a.1 ∈ names)))))
      ⟨same_new nD, by rw [upd_same]; rfl⟩ (fun i H' _ ⟨s1, _⟩ => s1 _ _ upd_same) ?_ ?_
    · rintro i k v T0 H' hkv ⟨s1, hD⟩ nT
      obtain ⟨kv, hkv2, rfl, rfl⟩ : ∃ kv, kvs[i]? = some kv ∧ k = Sum.inr kv.1 ∧ v = .ref kv.2 := by
        unfold enc at hkv
        rw [List.getElem?_map] at hkv
        cases e : kvs[i]? with
        | none => rw [e] at hkv; cases hkv
        | some kv =>
          rw [e] at hkv
          obtain ⟨e1, e2⟩ := Prod.mk.inj (Option.some.inj hkv)
          exact ⟨kv, rfl, e1.symm, e2.symm⟩
      have sT := s1.trans (same_new (o := .tup [kV (Sum.inr kv.1), .ref kv.2]) nT)
      have hl' : SqL K (upd H' T0 (.tup [kV (Sum.inr kv.1), .ref kv.2])) l (names.map V.str) := Same.seq sT (sqL_upd (by rw [h2]; intro xs h; cases h) (by rw [h2]; intro b xs h; cases h) hl)
      have hD' : (upd H' T0 (.tup [kV (Sum.inr kv.1), .ref kv.2])) D = some (.dK (enc V.ref ((kvs.take i).filter fun a => decide (a.1 ∈ names)))) := same_new nT _ _ hD
      have tk : kvs.take (i + 1) = kvs.take i ++ [kv] := by rw [List.take_add_one, hkv2]; rfl
      refine ⟨T0, _, rfl, .inl (.inl upd_same), rfl, _, _, rfl, _, _, rfl, rfl, rfl, ?_⟩
      refine ⟨_, rfl, _, rfl, l, _, rfl, .inl hl', rfl, flat_str names, _, rfl, ?_⟩
      show if inV (.str kv.1) (names.map V.str) = true then _ else _
      rw [inV_str]
      refine ite2 (fun e => ?_) (fun e => ?_)
      · have few : ((kvs.take i).filter fun a => decide (a.1 ∈ names)).length ≤ 1000 := Nat.le_trans (List.length_filter_le _ _) (Nat.le_trans (List.length_take_le' _ _) (by rw [h3.len]; exact h5))
        refine ⟨_, rfl, _, rfl, _, Sum.inr kv.1, rfl, hD', small5 (by rw [show (enc V.ref _).length = _ from List.length_map _]; omega), fun q o e2 => ?_, ?_⟩
        · rw [upd_ne (ne_of_none e2 nD)]
          exact sT _ _ e2
        · have nin : kv.1 ∉ ((kvs.take i).filter fun a => decide (a.1 ∈ names)).map (·.1) := by
            intro hm
            obtain ⟨b, hb, eb⟩ := List.mem_map.mp hm
            obtain ⟨j, hj⟩ := List.getElem?_of_mem (List.mem_filter.mp hb).1
            have hj2 := hj
            rw [List.getElem?_take] at hj2
            split at hj2
            · rename_i ji
              have nd := h4.nd
              rw [← h3.keys] at nd
              have e1 : (kvs.map (·.1))[j]? = some kv.1 := by rw [List.getElem?_map, hj2]; exact congrArg some eb
              have e2 : (kvs.map (·.1))[i]? = some kv.1 := by rw [List.getElem?_map, hkv2]; rfl
              have := (List.getElem?_inj (List.getElem?_eq_some_iff.mp e1).1 nd).mp (e1.trans e2.symm)
              omega
            · cases hj2
          rw [upd_same, putK_enc, putS_app _ _ _ nin, tk, List.filter_append]
          have : ([kv].filter fun a => decide (a.1 ∈ names)) = [kv] := by
            rw [List.filter_cons, if_pos e]
            rfl
          rw [this]
      · refine ⟨sT, ?_⟩
        have : ([kv].filter fun a => decide (a.1 ∈ names)) = [] := by
          rw [List.filter_cons, if_neg e]
          rfl
        rw [tk, List.filter_append, this, List.append_nil]
        exact hD'
    · rintro H' ⟨s1, hD⟩
      rw [lenk, List.take_length] at hD
      have hd' : H' d = some (.frz od (.dK (enc V.ref kvs))) := s1 _ _ upd_same
      have sB : Same H (upd H' d (.dK (enc V.ref kvs))) := fun q o e => by
        by_cases h : q = d
        · subst h
          rw [h2] at e
          rw [upd_same, ← e]
        · rw [upd_ne h]
          exact s1 _ _ (by rw [upd_ne h]; exact e)
      have hDB : (upd H' d (.dK (enc V.ref kvs))) D = some (.dK (enc V.ref (kvs.filter fun a => decide (a.1 ∈ names)))) := by rw [upd_ne dD.symm]; exact hD
      refine ⟨hd', _, rfl, p, CCache, dx, _, rfl, sB _ _ h1, T.cl, T.n_renderings, by show 1 < 1000; decide, ?_⟩
      have npD : D ≠ p := (ne_of_none h1 nD0).symm
      have kt : KeepT K H (upd (upd H' d (.dK (enc V.ref kvs))) p (.ins CCache dx (putF "_renderings" (.ref D) [(("_renderings" : Str), .ref d)]))) :=
        (Same.keepT sB).trans (KeepT.upd (by rw [sB _ _ h1]; intro xs h; cases h) (by rw [sB _ _ h1]; intro b xs h; cases h))
      have rowsK : RowsAt K (upd (upd H' d (.dK (enc V.ref kvs))) p (.ins CCache dx (putF "_renderings" (.ref D) [(("_renderings" : Str), .ref d)]))) kvs cs := h3.keep h4 kt fun b hb o e => by
        have nb : b.2 ≠ p := by
          rintro e2
          obtain ⟨i, hi⟩ := List.getElem?_of_mem hb
          obtain ⟨b2, _, _, vs2, hb2, _⟩ := h3.at_ hi
          rw [e2, h1] at hb2
          cases hb2
        rw [upd_ne nb]
        exact sB _ _ e
      refine q _ D nD0 ⟨dx, kvs.filter fun a => decide (a.1 ∈ names), ?_, ?_, rows_filter names rowsK, h4.filter _, Nat.le_trans (List.length_filter_le _ _) h5⟩ fun b o e hb => by rw [upd_ne hb]; exact sB _ _ e
      · rw [upd_same]
        rfl
      · rw [upd_ne npD]
        exact hDB
theorem ok_Cache_find (F : Fun K "find" "Cache.find" s_Cache_find f fd) (z : Z mg) (T : T_Cache K mg CCache) (cCache_renderings : CalM P w K mg base CCache "renderings" 1 ["self", "name"] (spCRen K CCache)) :
    FnOk P w K mg base CX0 2 f fd ["self", "name", "text", "found"] (spCFind K CCache) := by
  refine F.ok sc_Cache_find (fun vs H Q E h => ?_) (fun cdv A outer s H vs Q E hr h => ?_)
  · obtain ⟨p, d, cs, k, t, l, fs, rfl, _⟩ := h
    rfl
  · obtain ⟨p, d, cs, k, t, l, fs, rfl, ca, ct, lt, hl, pf, q⟩ := h
    refine ⟨_, (pss_cons (ps_for PassesOwn.never rfl (pi_list (pe_calM cCache_renderings (hr.mono (by decide)) (pv 0) (pa_cons (pv 1) pa_nil))) (pg_name (i := 4) sc_Cache_find.nd rfl (Or.inl rfl))
        (pss_one (ps_if (pt_cmpR (op_eqD hr.units) (pe_slice sl_tupA (pv 4) (po_some pe_int) (po_some pe_int)) (pe_tup (pa_cons (pv 2) (pa_cons (pe_callTy call_tuple_of (by rfl) z.tuple (by decide +kernel) (pa_cons (pv 3) pa_nil)) pa_nil))) (nomark _))
          (pss_one (ps_ret (pe_ix ix_tup (pv 4) pe_int (fun _ _ => rfl))))
          pss_nil)))
      (pss_one (ps_ret pe_non))), ?_⟩
    have ca' := ca
    obtain ⟨dx, kvs, h1, h2, h3, h4, h5⟩ := ca'
    refine ⟨_, rfl, p, dx, _, rfl, h1, rfl, _, rfl, p, d, cs, k, rfl, ca, fun H1 l2 s1 nl hl2 => ?_⟩
    obtain ⟨vs, hv1, hv2⟩ := hl2
    have fine := rowsC_fine h4 k
    obtain ⟨fv, hf1, hf2⟩ := hl
    refine ⟨l2, rfl, ⟨_, .inl (.inl hv1)⟩, ?_⟩
    refine for_list (K := K) (a := l2) (xs := vs) (fun i σ H3 => ∃ y4 : Option V, σ = [some (.ref p), some (.str k), some (.str t), some (.ref l), y4] ∧ Same H1 H3 ∧
      ∀ y ∈ (rowsC cs k).take i, PyData.eqv (.tuple [.str y.t, .tuple y.fs]) (.tuple [.str t, .tuple fs]) = false) ⟨_, rfl, Same.refl _, by rw [List.take_zero]; intro y hy; cases hy⟩ (fun i σ H3 _ ⟨_, _, s3, _⟩ => .inl (.inl (s3 _ _ hv1))) ?_ ?_
    · rintro i y σ H3 hy ⟨y4, rfl, s3, no⟩
      obtain ⟨y', hy', dy⟩ := dpAll_get' hv2 hy
      rw [List.getElem?_map] at hy'
      obtain ⟨yr, hyr, rfl⟩ : ∃ yr, (rowsC cs k)[i]? = some yr ∧ yr.d = y' := by
        cases e : (rowsC cs k)[i]? with
        | none => rw [e] at hy'; cases hy'
        | some yr => rw [e] at hy'; exact ⟨yr, rfl, Option.some.inj hy'⟩
      have pdy := (fine.2 yr (List.mem_of_getElem? hyr)).1
      have pdr : PdA 6 5000 [.str yr.n, .str yr.t, .tuple yr.fs, yr.r] := Pd.parts pdy
      have pd1 := pdr.mem (.str yr.t) (by simp)
      have pd2 := pdr.mem (.tuple yr.fs) (by simp)
      have pd3 := pdr.mem yr.r (by simp)
      obtain ⟨ya, v2, v3, rfl, hya, dv2, dv3⟩ := row_parts dy
      have tk : (rowsC cs k).take (i + 1) = (rowsC cs k).take i ++ [yr] := by rw [List.take_add_one, hyr]; rfl
      have hya3 := same_seqT s3 hya
      -- rendering[1:3]
      refine ⟨_, rfl, 1, rfl, 3, rfl, ya, _, rfl, hya3, fun h => ?_, fun _ T nT => ?_⟩
      · have h2 := h.1
        exact absurd (show HT.sIx 4 0 (some 1) = 0 from h2) (by decide +kernel)
      have hT : (upd H3 T (.tup (cutV [.str yr.n, .str yr.t, v2, v3] (some 1) (some 3)))) T = some (.tup [.str yr.t, v2]) := upd_same
      generalize hH4 : upd H3 T (.tup (cutV [.str yr.n, .str yr.t, v2, v3] (some 1) (some 3))) = H4 at *
      have s4 : Same H3 H4 := by rw [← hH4]; exact same_new nT
      -- (text, tuple(found))
      have hf4 := s4 _ _ (s3 _ _ (s1 _ _ hf1))
      refine ⟨_, rfl, _, rfl, l, fv, rfl, .inl ⟨.inl (.inl hf4), fun T2 nT2 => ?_⟩⟩
      refine ⟨by show 2 ≤ sizeLine; decide, fun T3 nT3 => ?_⟩
      have s5 := (same_new (o := .tup fv) nT2).trans (same_new (o := .tup [.str t, .ref T2]) nT3)
      have s14 := (s1.trans s3).trans (s4.trans s5)
      have kt : KeepT K H3 (upd (upd H4 T2 (.tup fv)) T3 (.tup [.str t, .ref T2])) := Same.keepT (s4.trans s5)
      have c1 : Pd 7 (3 * 5000) (.tuple [.str yr.t, .tuple yr.fs]) := ((PdA.cons pd1 (PdA.cons pd2 PdA.nil)).tup).mono (by decide) (by decide)
      have c2 : Pd 7 (3 * 5000) (.tuple [.str t, .tuple fs]) := ((PdA.cons ((Pd.str ct lt).mono (Nat.zero_le 6) (Nat.le_refl 1000)) (PdA.cons ((pf.tup).mono (by decide) (Nat.le_refl _)) PdA.nil)).tup).mono (by decide) (by decide)
      have d1 : Dp K (upd (upd H4 T2 (.tup fv)) T3 (.tup [.str t, .ref T2])) (.ref T) (.tuple [.str yr.t, .tuple yr.fs]) :=
        .tup (.inl (.inl (s5 _ _ hT))) (.cons (.str _) (.cons (pd2.keep ((Same.keepT s3).trans kt) dv2) .nil))
      have d2 : Dp K (upd (upd H4 T2 (.tup fv)) T3 (.tup [.str t, .ref T2])) (.ref T3) (.tuple [.str t, .tuple fs]) :=
        .tup (.inl (.inl upd_same)) (.cons (.str _) (.cons (.tup (.inl (.inl (same_new nT3 _ _ upd_same))) (pf.keep (Same.keepT s14) hf2)) .nil))
      refine ⟨_, _, d1, d2, c1.sz.shaped (by decide), c2.sz.shaped (by decide), _, rfl, ite2 (fun e => ?_) (fun e => ?_)⟩
      · have fnd : (rowsC cs k).find? (fun y => PyData.eqv (.tuple [.str y.t, .tuple y.fs]) (.tuple [.str t, .tuple fs])) = some yr := by
          have dec : rowsC cs k = (rowsC cs k).take i ++ yr :: (rowsC cs k).drop (i + 1) := by
            obtain ⟨lt, eq⟩ := List.getElem?_eq_some_iff.mp hyr
            rw [← eq, List.getElem_cons_drop, List.take_append_drop]
          rw [dec, List.find?_append]
          have none1 : ((rowsC cs k).take i).find? (fun y => PyData.eqv (.tuple [.str y.t, .tuple y.fs]) (.tuple [.str t, .tuple fs])) = none := by
            rw [List.find?_eq_none]
            intro y hy
            rw [no y hy]
            decide
          rw [none1, List.find?_cons, e]
          rfl
        refine ⟨.ref ya, rfl, ya, _, _, v3, rfl, rfl, same_seqT (s4.trans s5) hya3, atI_nat (j := 3) rfl, ?_⟩
        refine q _ v3 s14 ?_
        have : findC (rowsC cs k) t fs = yr.r := by
          unfold findC
          rw [fnd]
          rfl
        rw [this]
        exact pd3.keep ((Same.keepT s3).trans kt) dv3
      · refine ⟨_, rfl, s3.trans (s4.trans s5), ?_⟩
        rw [tk]
        intro y hy
        rcases List.mem_append.mp hy with h | h
        · exact no y h
        · rw [List.mem_singleton.mp h]
          simpa using e
    · rintro σ H3 ⟨y4, rfl, s3, no⟩
      have lenv : vs.length = (rowsC cs k).length := by rw [dpAll_len hv2, List.length_map]
      rw [lenv, List.take_length] at no
      refine q _ .non (s1.trans s3) ?_
      have : findC (rowsC cs k) t fs = .none := by
        unfold findC
        have : (rowsC cs k).find? (fun y => PyData.eqv (.tuple [.str y.t, .tuple y.fs]) (.tuple [.str t, .tuple fs])) = none := by
          rw [List.find?_eq_none]
          intro y hy
          rw [no y hy]
          decide
        rw [this]
        rfl
      rw [this]
      exact .non
end
end K06

namespace K06
open PySem PySem.Spec PyProof.Rows L2 Pg
theorem Shows.of {D M : Nat} {d : PyData} (s : Sz D M d) (h1 : D ≤ 40) (h2 : M ≤ 2 ^ 20) : Shows d := ⟨s.ok, s.nd, Nat.le_trans s.dep h1, s.fits h2⟩
theorem Drew.keepT {K : PySem.W.Frag} {b : Addr} {H H' : Hp} (x : Drew b H H') (hb : Box H b) : KeepT K H H' := by
  obtain ⟨dg, ds, n, h1, h2, _⟩ := hb
  rintro a xs ((h | ⟨o, h⟩) | h)
  · exact .inl (.inl (x.keep a _ (by rintro rfl; rw [h1] at h; cases h) h))
  · exact .inl (.inr ⟨o, x.keep a _ (by rintro rfl; rw [h1] at h; cases h) h⟩)
  · exact .inr h
theorem Drew.free {b : Addr} {H H' : Hp} (x : Drew b H H') (hb : Box H b) {t : Addr} (nt : H' t = none) : H t = none := by
  cases e : H t with
  | none => rfl
  | some o =>
    obtain ⟨dg, ds, n, h1, _⟩ := hb
    by_cases tb : t = b
    · obtain ⟨dg', ds', n', h1', _⟩ := x.box
      rw [tb, h1'] at nt
      cases nt
    · rw [x.keep t o tb e] at nt
      cases nt
/-- something new beside -/
theorem Drew.new {b L : Addr} {H H1 : Hp} {o : HO} (x : Drew b H H1) (hb : Box H b) (nL : H L = none) : Drew b H (upd H1 L o) := by
  have nb : L ≠ b := hb.ne nL
  obtain ⟨dg0, e0⟩ := hb
  have nd0 : L ≠ dg0 := (e0.ne nL).2
  have z := (x.dig dg0 e0).upd (o := o) nb nd0
  refine ⟨⟨dg0, z⟩, fun d e => (x.dig d e).upd nb (e.ne nL).2, fun p o' np e => ?_⟩
  rw [upd_ne (ne_of_none e nL)]
  exact x.keep p o' np e
theorem LAt.drew {K : PySem.W.Frag} {b l : Addr} {H H' : Hp} {ds : List PyData} {D M : Nat} (a : LAt K H l ds) (p : PdA D M ds) (x : Drew b H H') (hb : Box H b) (ne : l ≠ b) : LAt K H' l ds :=
  let ⟨vs, h, d⟩ := a
  ⟨vs, x.keep l _ ne h, p.keep (x.keepT hb) d⟩
/-- what is found -/
def spFound (K : PySem.W.Frag) : Sp := fun vs H Q _ => ∃ b : Addr, vs = [.ref b] ∧ Box H b ∧ ∀ (H' : Hp) (l : Addr) (fs : List PyData), H l = none → Drew b H H' → LAt K H' l fs → PdA 4 3000 fs → fs.length ≤ 2 → Q (.ref l) H'
def lookD (rs : List Row) (n t : Str) (fs : List PyData) : PyData := ((rs.find? fun y => decide (y.n = n) && (decide (y.t = t) && PyData.eqv (.tuple y.fs) (.tuple fs))).map Row.r).getD .none
def spLooked (K : PySem.W.Frag) : Sp := fun vs H Q _ => ∃ (l lf : Addr) (rs : List Row) (n t : Str) (fs : List PyData), vs = [.ref l, .str n, .str t, .ref lf] ∧ LAt K H l (rs.map Row.d) ∧ (∀ x ∈ rs, Pd 6 5000 x.d) ∧ LAt K H lf fs ∧ PdA 4 3000 fs ∧
  ∀ H' v, Same H H' → Dp K H' v (lookD rs n t fs) → Q v H'
theorem find_congr {α : Type} {p q : α → Bool} : ∀ {l : List α}, (∀ x ∈ l, p x = q x) → l.find? p = l.find? q
  | [], _ => rfl
  | x :: l, h => by
    rw [List.find?_cons, List.find?_cons, h x List.mem_cons_self, find_congr fun y hy => h y (List.mem_cons_of_mem _ hy)]
theorem look_find {rs : List Row} {n t : Str} {fs : List PyData} (h : ∀ x ∈ rs, x.n = n) : lookD rs n t fs = findC rs t fs := by
  unfold lookD findC
  congr 2
  refine find_congr fun x hx => ?_
  rw [decide_eq_true (h x hx), Bool.true_and]
  simp only [PyData.eqv, PyData.eqvAll, Bool.and_true]
  congr 1
def xy : List Str := ["x", "y"]
def res3 : List PyData := [.tuple [.str "text", .str "?", .tuple []], .tuple [.str "text", .str "t", .tuple [.str "a"]], .tuple [.str "failed", .str "y"]]
theorem codesB {z : Str} (h : z.cps.toList.all (fun c => decide (c < 1114112)) = true) : Codes z := fun c hc => of_decide_eq_true (List.all_eq_true.mp h c hc)
theorem xy_ok : ∀ z ∈ xy, z.cps.toList.all (fun c => decide (c < 1114112)) = true ∧ z.length ≤ 10 := by decide +kernel
theorem pd_lit {z : Str} (h : z.cps.toList.all (fun c => decide (c < 1114112)) = true) (l : z.length ≤ 10) : Pd 0 10 (.str z) := Pd.str (codesB h) l
theorem res3_pd : ∀ d ∈ res3, Pd 2 100 d := by
  intro d hd
  simp only [res3, List.mem_cons, List.not_mem_nil, or_false] at hd
  have e : Pd 1 0 (.tuple []) := PdA.nil.tup
  have l : ∀ {z : Str}, z.cps.toList.all (fun c => decide (c < 1114112)) = true → z.length ≤ 10 → Pd 1 10 (.str z) := fun h l => (pd_lit h l).mono (by decide) (Nat.le_refl _)
  rcases hd with rfl | rfl | rfl
  · exact ((PdA.cons (l (by decide +kernel) (by decide)) (PdA.cons (l (by decide +kernel) (by decide)) (PdA.cons e PdA.nil))).tup).mono (by decide) (by decide)
  · exact ((PdA.cons (l (by decide +kernel) (by decide)) (PdA.cons (l (by decide +kernel) (by decide)) (PdA.cons ((PdA.cons (pd_lit (z := "a") (by decide +kernel) (by decide)) PdA.nil).tup) PdA.nil))).tup).mono (by decide) (by decide)
  · exact ((PdA.cons (l (by decide +kernel) (by decide)) (PdA.cons (l (by decide +kernel) (by decide)) PdA.nil)).tup).mono (by decide) (by decide)
section
variable {P : Program} {w : World} {K : PySem.W.Frag} {mg : Str → Option Value} {base : Heap} {f CCache : Addr} {fd : FuncData}
theorem ok_law_found (F : Fun K "_law_found" "_law_found" s_law_found f fd) (z : Z mg) (claw_draw : Cal P w K mg base "_law_draw" 1 ["box", "many"] spDraw) : FnOk P w K mg base CX0 2 f fd ["box"] (spFound K) := by
  refine F.ok sc_law_found (fun vs H Q E h => ?_) (fun cdv A outer s H vs Q E hr h => ?_)
  · obtain ⟨b, rfl, _⟩ := h
    rfl
  · obtain ⟨b, rfl, hb, q⟩ := h
    refine ⟨_, (pss_cons (ps_set (i := 1) sc_law_found.nd rfl (Or.inl rfl) (pe_lst pa_nil))
      (pss_cons (ps_for PassesOwn.never rfl (pi_range1 (by rfl) z.range (pa_cons (pe_cal claw_draw (hr.mono (by decide)) (by rfl) (pa_cons (pv 0) (pa_cons pe_int pa_nil))) pa_nil)) (pg_name (i := 2) sc_law_found.nd rfl (Or.inl rfl))
        (pss_one (ps_expr (pe_bm PySem.F.plainAttrs_list PySem.F.slot_list_append PySem.F.type_list_append mt_append (pv 1) (pa_cons (pe_tup (pa_cons (pe_ix ix_list (pe_lst (pa_cons pe_str (pa_cons pe_str pa_nil))) (pe_cal claw_draw (hr.mono (by decide)) (by rfl) (pa_cons (pv 0) (pa_cons pe_int pa_nil))) (fun _ _ => rfl)) (pa_cons (pe_ix ix_list (pe_lst (pa_cons (pe_tup (pa_cons pe_str (pa_cons pe_str (pa_cons (pe_tup pa_nil) pa_nil)))) (pa_cons (pe_tup (pa_cons pe_str (pa_cons pe_str (pa_cons (pe_tup (pa_cons pe_str pa_nil)) pa_nil)))) (pa_cons (pe_tup (pa_cons pe_str (pa_cons pe_str pa_nil))) pa_nil)))) (pe_cal claw_draw (hr.mono (by decide)) (by rfl) (pa_cons (pv 0) (pa_cons pe_int pa_nil))) (fun _ _ => rfl)) pa_nil))) pa_nil)))))
      (pss_one (ps_ret (pv 1))))), ?_⟩
    refine ⟨Nat.zero_le _, fun L nL => ?_⟩
    have Lb : L ≠ b := hb.ne nL
    have d0 : Drew b H (upd H L (.lst [])) := (Drew.of hb (Same.refl _)).new hb nL
    refine ⟨.ref b, rfl, b, 3, rfl, by decide, d0.box, fun n H1 n0 n1 d1 => ⟨n, rfl, by omega, by omega, ?_⟩⟩
    refine for_range (lo := 0) (n := n.toNat) (fun j σ H3 => ∃ (y2 : Option V) (fs : List PyData), σ = [some (.ref b), some (.ref L), y2] ∧ Drew b H H3 ∧ LAt K H3 L fs ∧ (∀ d ∈ fs, Pd 3 150 d) ∧ fs.length ≤ j)
      ⟨_, [], rfl, d0.trans d1, ⟨[], d1.keep L _ Lb upd_same, .nil⟩, (by intro d hd; cases hd), Nat.le_refl _⟩ ?_ ?_
    · rintro j σ H3 hj ⟨y2, fs, rfl, d3, hL, pf, le⟩
      have pfA : PdA 3 (2 * 151) fs := PdA.all pf (by omega)
      obtain ⟨ws, hL3, da⟩ := hL
      refine ⟨.ref L, rfl, .inl ⟨rfl, _, .inl (.inl hL3)⟩, ?_⟩
      refine ⟨by show 2 ≤ sizeLine; decide, fun p1 np1 => ?_⟩
      have box4 := d3.box.same (same_new (o := .lst (xy.map V.str)) np1)
      have L1 : p1 ≠ L := (ne_of_none hL3 np1).symm
      refine ⟨.ref b, rfl, b, 2, rfl, by decide, box4, fun r H5 r0 r1 d5 => ?_⟩
      have hp1 := d5.keep p1 _ (d3.box.ne np1) upd_same
      obtain ⟨v, hv, at_v⟩ := at_in (xs := xy.map V.str) r0 r1
      obtain ⟨zx, hzx, rfl⟩ := List.mem_map.mp hv
      refine ⟨p1, _, _, _, rfl, rfl, .inl (.inl hp1), at_v, ?_⟩
      have d35 : Drew b H H5 := d3.trans ((Drew.of d3.box (same_new (o := .lst (xy.map V.str)) np1)).trans d5)
      have hL5 : H5 L = some (.lst ws) := d5.keep L _ Lb (same_new np1 _ _ hL3)
      have da5 : DpAll K H5 ws fs := pfA.keep ((Same.keepT (same_new np1)).trans (d5.keepT box4)) da
      clear da at_v hv
      -- the three results
      refine ⟨by show 0 ≤ sizeLine; decide, fun t1 nt1 => ?_⟩
      refine ⟨by show 3 ≤ sizeLine; decide, fun t2 nt2 => ?_⟩
      refine ⟨by show 1 ≤ sizeLine; decide, fun t3 nt3 => ?_⟩
      refine ⟨by show 3 ≤ sizeLine; decide, fun t4 nt4 => ?_⟩
      refine ⟨by show 2 ≤ sizeLine; decide, fun t5 nt5 => ?_⟩
      refine ⟨by show 3 ≤ sizeLine; decide, fun l3 nl3 => ?_⟩
      have g1 : ∀ {X : Hp}, Same (upd H5 t1 (.tup [])) X → X t1 = some (.tup []) := fun s => s _ _ upd_same
      have sAll : Same H5 (upd (upd (upd (upd (upd (upd H5 t1 (.tup [])) t2 (.tup [.str "text", .str "?", .ref t1])) t3 (.tup [.str "a"])) t4 (.tup [.str "text", .str "t", .ref t3])) t5 (.tup [.str "failed", .str "y"])) l3 (.lst [.ref t2, .ref t4, .ref t5])) :=
        (same_new nt1).trans ((same_new nt2).trans ((same_new nt3).trans ((same_new nt4).trans ((same_new nt5).trans (same_new nl3)))))
      have e1 : Same (upd H5 t1 (.tup [])) (upd (upd (upd (upd (upd (upd H5 t1 (.tup [])) t2 (.tup [.str "text", .str "?", .ref t1])) t3 (.tup [.str "a"])) t4 (.tup [.str "text", .str "t", .ref t3])) t5 (.tup [.str "failed", .str "y"])) l3 (.lst [.ref t2, .ref t4, .ref t5])) :=
        (same_new nt2).trans ((same_new nt3).trans ((same_new nt4).trans ((same_new nt5).trans (same_new nl3))))
      have e2 := (same_new (o := .tup [V.str "a"]) nt3).trans ((same_new (o := .tup [.str "text", .str "t", .ref t3]) nt4).trans ((same_new (o := .tup [V.str "failed", .str "y"]) nt5).trans (same_new (o := .lst [.ref t2, .ref t4, .ref t5]) nl3)))
      have e3 := (same_new (o := .tup [.str "text", .str "t", .ref t3]) nt4).trans ((same_new (o := .tup [V.str "failed", .str "y"]) nt5).trans (same_new (o := .lst [.ref t2, .ref t4, .ref t5]) nl3))
      have e4 := (same_new (o := .tup [V.str "failed", .str "y"]) nt5).trans (same_new (o := .lst [.ref t2, .ref t4, .ref t5]) nl3)
      have e5 := same_new (o := .lst [.ref t2, .ref t4, .ref t5]) nl3
      have h1 := e1 _ _ upd_same
      have h2 := e2 _ _ upd_same
      have h3 := e3 _ _ upd_same
      have h4 := e4 _ _ upd_same
      have h5 := e5 _ _ upd_same
      have h6 : (upd (upd (upd (upd (upd (upd H5 t1 (.tup [])) t2 (.tup [.str "text", .str "?", .ref t1])) t3 (.tup [.str "a"])) t4 (.tup [.str "text", .str "t", .ref t3])) t5 (.tup [.str "failed", .str "y"])) l3 (.lst [.ref t2, .ref t4, .ref t5])) l3 = some (.lst [.ref t2, .ref t4, .ref t5]) := upd_same
      generalize upd (upd (upd (upd (upd (upd H5 t1 (.tup [])) t2 (.tup [.str "text", .str "?", .ref t1])) t3 (.tup [.str "a"])) t4 (.tup [.str "text", .str "t", .ref t3])) t5 (.tup [.str "failed", .str "y"])) l3 (.lst [.ref t2, .ref t4, .ref t5]) = H6 at *
      have da3 : DpAll K H6 [.ref t2, .ref t4, .ref t5] res3 :=
        .cons (.tup (.inl (.inl h2)) (.cons (.str _) (.cons (.str _) (.cons (.tup (.inl (.inl h1)) .nil) .nil))))
          (.cons (.tup (.inl (.inl h4)) (.cons (.str _) (.cons (.str _) (.cons (.tup (.inl (.inl h3)) (.cons (.str _) .nil)) .nil)))) (.cons (.tup (.inl (.inl h5)) (.cons (.str _) (.cons (.str _) .nil))) .nil))
      have box6 := d35.box.same sAll
      have hne : l3 ≠ b := by
        intro e
        obtain ⟨dg, ds, n, hbx, _⟩ := box6
        rw [e, hbx] at h6
        cases h6
      refine ⟨.ref b, rfl, b, 3, rfl, by decide, box6, fun k H7 k0 k1 d7 => ?_⟩
      have h67 := d7.keep l3 _ hne h6
      obtain ⟨v, hv, at_v⟩ := at_in (xs := [V.ref t2, .ref t4, .ref t5]) k0 k1
      obtain ⟨i3, hi3⟩ := List.getElem?_of_mem hv
      obtain ⟨rd, hrd, dv⟩ := dpAll_get' da3 hi3
      have prd := res3_pd rd (List.mem_of_getElem? hrd)
      refine ⟨l3, _, _, v, rfl, rfl, .inl (.inl h67), at_v, ?_⟩
      refine ⟨by show 2 ≤ sizeLine; decide, fun T nT => ?_⟩
      have kt7 := (d7.keepT (K := K) box6)
      have s8 : Same H7 (upd H7 T (.tup [.str zx, v])) := same_new nT
      have hL7 : H7 L = some (.lst ws) := d7.keep L _ Lb (sAll _ _ hL5)
      have d37 : Drew b H H7 := d35.trans ((Drew.of d35.box sAll).trans d7)
      refine ⟨L, _, _, rfl, rfl, s8 _ _ hL7, small5 (by have := dpAll_len da5; omega), ?_⟩
      have kL : KeepT K (upd H7 T (.tup [.str zx, v])) (upd (upd H7 T (.tup [.str zx, v])) L (.lst (ws ++ [.ref T]))) := KeepT.upd (by rw [s8 _ _ hL7]; intro xs h; cases h) (by rw [s8 _ _ hL7]; intro b xs h; cases h)
      have ktE : KeepT K H5 (upd (upd H7 T (.tup [.str zx, v])) L (.lst (ws ++ [.ref T]))) := (Same.keepT sAll).trans (kt7.trans ((Same.keepT s8).trans kL))
      have nT0 := d37.free hb nT
      refine ⟨_, fs ++ [.tuple [.str zx, rd]], rfl, (d37.new hb nT0).new hb nL, ⟨ws ++ [.ref T], upd_same, dpAll_app (pfA.keep ktE da5) (.cons (.tup (kL _ _ (.inl (.inl upd_same))) (.cons (.str _) (.cons (prd.keep (kt7.trans ((Same.keepT s8).trans kL)) dv) .nil))) .nil)⟩, ?_, by rw [List.length_append]; show fs.length + 1 ≤ _; omega⟩
      intro d hd
      rcases List.mem_append.mp hd with h | h
      · exact pf d h
      · rw [List.mem_singleton.mp h]
        obtain ⟨c1, c2⟩ := xy_ok zx hzx
        exact ((PdA.cons ((pd_lit c1 c2).mono (Nat.zero_le 2) (Nat.le_refl _)) (PdA.cons prd PdA.nil)).tup).mono (by decide) (by decide)
    · rintro σ H3 ⟨y2, fs, rfl, d3, hL, pf, le⟩
      exact ⟨_, rfl, q _ L fs nL d3 hL ((PdA.all pf (n := 2) (by omega)).mono (by decide) (by decide)) (by omega)⟩
theorem ok_law_looked (F : Fun K "_law_looked" "_law_looked" s_law_looked f fd) (z : Z mg) : FnOk P w K mg base CX0 1 f fd ["rows", "name", "text", "found"] (spLooked K) := by
  refine F.ok sc_law_looked (fun vs H Q E h => ?_) (fun cdv A outer s H vs Q E hr h => ?_)
  · obtain ⟨l, lf, rs, n, t, fs, rfl, _⟩ := h
    rfl
  · obtain ⟨l, lf, rs, n, t, fs, rfl, ⟨vs, hv1, hv2⟩, fine, ⟨fv, hf1, hf2⟩, pf, q⟩ := h
    refine ⟨_, (pss_cons (ps_for PassesOwn.never rfl (pi_list (pv 0)) (pg_name (i := 4) sc_law_looked.nd rfl (Or.inl rfl))
        (pss_one (ps_if (PW.pt (pw_and (pt_cmpR op_eq (pe_ix ix_tup (pv 4) pe_int (fun _ _ => rfl)) (pv 1) (nomark _)) (pw_and (pt_cmpR op_eq (pe_ix ix_tup (pv 4) pe_int (fun _ _ => rfl)) (pv 2) (nomark _)) (pw_and1 (pt_cmpR (op_eqD hr.units) (pe_ix ix_tup (pv 4) pe_int (fun _ _ => rfl)) (pe_callTy call_tuple_of (by rfl) z.tuple (by decide +kernel) (pa_cons (pv 3) pa_nil)) (nomark _))))))
          (pss_one (ps_ret (pe_ix ix_tup (pv 4) pe_int (fun _ _ => rfl))))
          pss_nil)))
      (pss_one (ps_ret pe_non))), ?_⟩
    refine ⟨_, rfl, l, rfl, ⟨_, .inl (.inl hv1)⟩, ?_⟩
    refine for_list (K := K) (a := l) (xs := vs) (fun i σ H3 => ∃ y4 : Option V, σ = [some (.ref l), some (.str n), some (.str t), some (.ref lf), y4] ∧ Same H H3 ∧
      ∀ y ∈ rs.take i, (decide (y.n = n) && (decide (y.t = t) && PyData.eqv (.tuple y.fs) (.tuple fs))) = false) ⟨_, rfl, Same.refl _, by rw [List.take_zero]; intro y hy; cases hy⟩ (fun i σ H3 _ ⟨_, _, s3, _⟩ => .inl (.inl (s3 _ _ hv1))) ?_ ?_
    · rintro i y σ H3 hy ⟨y4, rfl, s3, no⟩
      obtain ⟨y', hy', dy⟩ := dpAll_get' hv2 hy
      rw [List.getElem?_map] at hy'
      obtain ⟨yr, hyr, rfl⟩ : ∃ yr, rs[i]? = some yr ∧ yr.d = y' := by
        cases e : rs[i]? with
        | none => rw [e] at hy'; cases hy'
        | some yr => rw [e] at hy'; exact ⟨yr, rfl, Option.some.inj hy'⟩
      have pdy := fine yr (List.mem_of_getElem? hyr)
      have pdr : PdA 6 5000 [.str yr.n, .str yr.t, .tuple yr.fs, yr.r] := Pd.parts pdy
      have pd2 := pdr.mem (.tuple yr.fs) (by simp)
      have pd3 := pdr.mem yr.r (by simp)
      obtain ⟨ya, v2, v3, rfl, hya, dv2, dv3⟩ := row_parts dy
      have tk : rs.take (i + 1) = rs.take i ++ [yr] := by rw [List.take_add_one, hyr]; rfl
      have hya3 := same_seqT s3 hya
      have bad : (decide (yr.n = n) && (decide (yr.t = t) && PyData.eqv (.tuple yr.fs) (.tuple fs))) = false → ∀ y ∈ rs.take (i + 1), (decide (y.n = n) && (decide (y.t = t) && PyData.eqv (.tuple y.fs) (.tuple fs))) = false := fun e y hy => by
        rw [tk] at hy
        rcases List.mem_append.mp hy with h | h
        · exact no y h
        · rw [List.mem_singleton.mp h]
          exact e
      refine ⟨.ref ya, rfl, ya, _, _, .str yr.n, rfl, rfl, hya3, atI_nat (j := 0) rfl, _, rfl, rfl, _, rfl, ite2 (fun e => ?_) (fun e => ?_)⟩
      · have e1 : yr.n = n := by
          have := of_decide_eq_true e
          exact V.str.inj this
        refine ⟨.ref ya, rfl, ya, _, _, .str yr.t, rfl, rfl, hya3, atI_nat (j := 1) rfl, _, rfl, rfl, _, rfl, ite2 (fun e => ?_) (fun e => ?_)⟩
        · have e2 : yr.t = t := by
            have := of_decide_eq_true e
            exact V.str.inj this
          refine ⟨.ref ya, rfl, ya, _, _, v2, rfl, rfl, hya3, atI_nat (j := 2) rfl, ?_⟩
          have hf3 := s3 _ _ hf1
          refine ⟨_, rfl, lf, fv, rfl, .inl ⟨.inl (.inl hf3), fun T2 nT2 => ?_⟩⟩
          have s4 : Same H3 (upd H3 T2 (.tup fv)) := same_new nT2
          have d1 := pd2.keep (Same.keepT (s3.trans s4)) dv2
          have d2 : Dp K (upd H3 T2 (.tup fv)) (.ref T2) (.tuple fs) := .tup (.inl (.inl upd_same)) (pf.keep (Same.keepT (s3.trans s4)) hf2)
          refine ⟨_, _, d1, d2, pd2.sz.shaped (by decide), pf.tup.sz.shaped (by decide), _, rfl, ite2 (fun e => ?_) (fun e => ?_)⟩
          · have fnd : rs.find? (fun y => decide (y.n = n) && (decide (y.t = t) && PyData.eqv (.tuple y.fs) (.tuple fs))) = some yr := by
              have dec : rs = rs.take i ++ yr :: rs.drop (i + 1) := by
                obtain ⟨lt, eq⟩ := List.getElem?_eq_some_iff.mp hyr
                rw [← eq, List.getElem_cons_drop, List.take_append_drop]
              rw [dec, List.find?_append]
              have none1 : (rs.take i).find? (fun y => decide (y.n = n) && (decide (y.t = t) && PyData.eqv (.tuple y.fs) (.tuple fs))) = none := by
                rw [List.find?_eq_none]
                intro y hy
                rw [no y hy]
                decide
              rw [none1, List.find?_cons, decide_eq_true e1, decide_eq_true e2, e]
              rfl
            refine ⟨.ref ya, rfl, ya, _, _, v3, rfl, rfl, same_seqT s4 hya3, atI_nat (j := 3) rfl, ?_⟩
            refine q _ v3 (s3.trans s4) ?_
            have : lookD rs n t fs = yr.r := by
              unfold lookD
              rw [fnd]
              rfl
            rw [this]
            exact pd3.keep (Same.keepT (s3.trans s4)) dv3
          · refine ⟨_, rfl, s3.trans s4, bad ?_⟩
            have : PyData.eqv (.tuple yr.fs) (.tuple fs) = false := by simpa using e
            rw [this, Bool.and_false, Bool.and_false]
        · refine ⟨_, rfl, s3, bad ?_⟩
          have : decide (yr.t = t) = false := decide_eq_false fun h => e (by rw [h]; exact decide_eq_true rfl)
          rw [this, Bool.false_and, Bool.and_false]
      · refine ⟨_, rfl, s3, bad ?_⟩
        have : decide (yr.n = n) = false := decide_eq_false fun h => e (by rw [h]; exact decide_eq_true rfl)
        rw [this, Bool.false_and]
    · rintro σ H3 ⟨y4, rfl, s3, no⟩
      have lenv : vs.length = rs.length := by rw [dpAll_len hv2, List.length_map]
      rw [lenv, List.take_length] at no
      refine q _ .non s3 ?_
      have : lookD rs n t fs = .none := by
        unfold lookD
        have : rs.find? (fun y => decide (y.n = n) && (decide (y.t = t) && PyData.eqv (.tuple y.fs) (.tuple fs))) = none := by
          rw [List.find?_eq_none]
          intro y hy
          rw [no y hy]
          decide
        rw [this]
        rfl
      rw [this]
      exact .non
end
end K06

namespace K06
open PySem PySem.Spec PyProof.Rows L2 Pg
/-- a dict at e of names with their renderings -/
def KAt (K : PySem.W.Frag) (H : Hp) (e : Addr) (kn : List (Str × List Row)) : Prop := ∃ kvs, H e = some (.dK (enc V.ref kvs)) ∧ RowsAt K H kvs kn ∧ CFine kn
/-- neither a list nor a tuple -/
def Odd (H : Hp) (x : Addr) : Prop := (∀ xs, H x ≠ some (.lst xs)) ∧ (∀ xs, H x ≠ some (.tup xs)) ∧ ∀ b xs, H x ≠ some (.frz b (.tup xs))
theorem odd_d {H : Hp} {x : Addr} {kvs : List (Key × V)} (h : H x = some (.dK kvs)) : Odd H x := ⟨fun xs => (by rw [h]; intro z; cases z), fun xs => (by rw [h]; intro z; cases z), fun b xs => (by rw [h]; intro z; cases z)⟩
theorem odd_i {H : Hp} {x : Addr} {C dx : Addr} {fs : List (Str × V)} (h : H x = some (.ins C dx fs)) : Odd H x := ⟨fun xs => (by rw [h]; intro z; cases z), fun xs => (by rw [h]; intro z; cases z), fun b xs => (by rw [h]; intro z; cases z)⟩
/-- all but x is as it was -/
def But (x : Addr) (H H' : Hp) : Prop := ∀ q o, H q = some o → q ≠ x → H' q = some o
theorem But.keepT {K : PySem.W.Frag} {x : Addr} {H H' : Hp} (b : But x H H') (o : Odd H x) : KeepT K H H' := by
  rintro a xs ((h | ⟨c, h⟩) | h)
  · exact .inl (.inl (b a _ h (by rintro rfl; exact o.2.1 _ h)))
  · exact .inl (.inr ⟨c, b a _ h (by rintro rfl; exact o.2.2 _ _ h)⟩)
  · exact .inr h
theorem RowsAt.lst {K : PySem.W.Frag} {H : Hp} {kvs : List (Str × Addr)} {cs : List (Str × List Row)} (r : RowsAt K H kvs cs) {a : Str × Addr} (ha : a ∈ kvs) : ∃ (vs : List V) (rs : List Row), H a.2 = some (.lst vs) ∧ DpAll K H vs (rs.map Row.d) := by
  obtain ⟨i, hi⟩ := List.getElem?_of_mem ha
  obtain ⟨b, _, _, vs, hb, hd⟩ := r.at_ hi
  exact ⟨vs, b.2, hb, hd⟩
theorem RowsAt.but {K : PySem.W.Frag} {x : Addr} {H H' : Hp} {kvs : List (Str × Addr)} {cs : List (Str × List Row)} (r : RowsAt K H kvs cs) (f : CFine cs) (b : But x H H') (o : Odd H x) : RowsAt K H' kvs cs :=
  r.keep f (b.keepT o) fun a ha o' e => by
    obtain ⟨vs, _, hv, _⟩ := r.lst ha
    exact b _ _ e (by rintro rfl; exact o.1 _ hv)
theorem KAt.but {K : PySem.W.Frag} {x e : Addr} {H H' : Hp} {kn : List (Str × List Row)} (k : KAt K H e kn) (b : But x H H') (o : Odd H x) (ne : e ≠ x) : KAt K H' e kn :=
  let ⟨kvs, h1, h2, h3⟩ := k
  ⟨kvs, b _ _ h1 ne, h2.but h3 b o, h3⟩
theorem CAt.but {K : PySem.W.Frag} {C x p d : Addr} {H H' : Hp} {cs : List (Str × List Row)} (c : CAt K C H p d cs) (b : But x H H') (o : Odd H x) (n1 : p ≠ x) (n2 : d ≠ x) : CAt K C H' p d cs :=
  let ⟨dx, kvs, h1, h2, h3, h4, h5⟩ := c
  ⟨dx, kvs, b _ _ h1 n1, b _ _ h2 n2, h3.but h4 b o, h4, h5⟩
theorem Box.but {x b : Addr} {H H' : Hp} (h : Box H b) (k : But x H H') (o : Odd H x) : Box H' b := by
  obtain ⟨dg, ds, n, h1, h2, h3, h4⟩ := h
  exact ⟨dg, ds, n, k _ _ h1 (by rintro rfl; exact o.1 _ h1), k _ _ h2 (by rintro rfl; exact o.1 _ h2), h3, h4⟩
/-- no list of renderings is the box -/
theorem rows_box {K : PySem.W.Frag} {b : Addr} {H : Hp} (hb : Box H b) {vs : List V} {rs : List Row} {a : Addr} (h : H a = some (.lst vs)) (d : DpAll K H vs (rs.map Row.d)) : a ≠ b := by
  rintro rfl
  obtain ⟨dg, ds, n, h1, _⟩ := hb
  rw [h1] at h
  cases h
  match rs, d with
  | _ :: y :: _, .cons _ (.cons d _) => cases d
theorem RowsAt.drew {K : PySem.W.Frag} {b : Addr} {H H' : Hp} {kvs : List (Str × Addr)} {cs : List (Str × List Row)} (r : RowsAt K H kvs cs) (f : CFine cs) (x : Drew b H H') (hb : Box H b) : RowsAt K H' kvs cs :=
  r.keep f (x.keepT hb) fun a ha o' e => by
    obtain ⟨vs, rs, hv, hd⟩ := r.lst ha
    exact x.keep _ _ (rows_box hb hv hd) e
theorem KAt.drew {K : PySem.W.Frag} {b e : Addr} {H H' : Hp} {kn : List (Str × List Row)} (k : KAt K H e kn) (x : Drew b H H') (hb : Box H b) : KAt K H' e kn :=
  let ⟨kvs, h1, h2, h3⟩ := k
  ⟨kvs, x.keep _ _ (by rintro rfl; obtain ⟨_, _, _, h, _⟩ := hb; rw [h] at h1; cases h1) h1, h2.drew h3 x hb, h3⟩
theorem CAt.drew {K : PySem.W.Frag} {C b p d : Addr} {H H' : Hp} {cs : List (Str × List Row)} (c : CAt K C H p d cs) (x : Drew b H H') (hb : Box H b) : CAt K C H' p d cs :=
  let ⟨dx, kvs, h1, h2, h3, h4, h5⟩ := c
  ⟨dx, kvs, x.keep _ _ (by rintro rfl; obtain ⟨_, _, _, h, _⟩ := hb; rw [h] at h1; cases h1) h1, x.keep _ _ (by rintro rfl; obtain ⟨_, _, _, h, _⟩ := hb; rw [h] at h2; cases h2) h2, h3.drew h4 x hb, h4, h5⟩
def abc : List Str := ["a", "b", "c"]
/-- where the law stands: its box, the cache, what it knows itself -/
structure LS (K : PySem.W.Frag) (C : Addr) (H : Hp) (b c d e : Addr) (cs kn : List (Str × List Row)) (m : Nat) : Prop where
  box : Box H b
  ca : CAt K C H c d cs
  ka : KAt K H e kn
  ne : e ≠ d
  eq : ∀ k, rowsC cs k = rowsC kn k
  fewC : cs.length ≤ m
  fewK : kn.length ≤ 3 * m
  out : ∀ k, k ∉ abc → rowsC kn k = []
theorem codes_add {x y : Str} (a : Codes x) (b : Codes y) : Codes (x ++ y) := fun c hc => by
  rw [cd_app] at hc
  rcases List.mem_append.mp hc with h | h
  · exact a c h
  · exact b c h
theorem LS.drew {K : PySem.W.Frag} {C b c d e : Addr} {H H' : Hp} {cs kn : List (Str × List Row)} {m : Nat} (s : LS K C H b c d e cs kn m) (x : Drew b H H') : LS K C H' b c d e cs kn m :=
  ⟨x.box, s.ca.drew x s.box, s.ka.drew x s.box, s.ne, s.eq, s.fewC, s.fewK, s.out⟩
theorem LS.same {K : PySem.W.Frag} {C b c d e : Addr} {H H' : Hp} {cs kn : List (Str × List Row)} {m : Nat} (s : LS K C H b c d e cs kn m) (x : Same H H') : LS K C H' b c d e cs kn m := s.drew (Drew.of s.box x)
theorem LS.up {K : PySem.W.Frag} {C b c d e : Addr} {H : Hp} {cs kn : List (Str × List Row)} {m m' : Nat} (s : LS K C H b c d e cs kn m) (h : m ≤ m') : LS K C H b c d e cs kn m' :=
  ⟨s.box, s.ca, s.ka, s.ne, s.eq, Nat.le_trans s.fewC h, Nat.le_trans s.fewK (Nat.mul_le_mul (Nat.le_refl _) h), s.out⟩
theorem rows_put (cs : List (Str × List Row)) (k j : Str) (rs : List Row) : rowsC (putS cs k rs) j = if j = k then rs else rowsC cs j := by
  unfold rowsC
  rw [get_put]
  split <;> rfl
theorem rows_keep {cs : List (Str × List Row)} (names : List Str) (k : Str) : rowsC (keepC cs names) k = if k ∈ names then rowsC cs k else [] := by
  unfold keepC rowsC
  induction cs with
  | nil => split <;> rfl
  | cons p r ih =>
    rw [List.filter_cons]
    by_cases hp : p.1 ∈ names
    · rw [if_pos (decide_eq_true hp), getS, getS]
      by_cases e : p.1 = k
      · rw [if_pos e, if_pos e, if_pos (by rw [← e]; exact hp)]
      · rw [if_neg e, if_neg e, ih]
    · rw [if_neg (by simpa using hp), ih, getS]
      by_cases e : p.1 = k
      · rw [if_neg (by rw [← e]; exact hp), if_neg (by rw [← e]; exact hp)]
      · rw [if_neg e]
/-- what is put into the law's own dict -/
theorem KAt.put {K : PySem.W.Frag} {H : Hp} {e l : Addr} {kn : List (Str × List Row)} {k : Str} {rs : List Row} (h : KAt K H e kn) (hl : LAt K H l (rs.map Row.d)) (few : rs.length ≤ 4) (ok : ∀ x ∈ rs, Pd 6 5000 x.d ∧ x.n = k) :
    ∃ kvs, H e = some (.dK (enc V.ref kvs)) ∧ kvs.length = kn.length ∧ KAt K (upd H e (.dK (putK (enc V.ref kvs) (Sum.inr k) (.ref l)))) e (putS kn k rs) := by
  obtain ⟨kvs, h1, h2, h3⟩ := h
  refine ⟨kvs, h1, h2.len, putS kvs k l, by rw [upd_same, putK_enc], ?_, h3.put few ok⟩
  have b : But e H (upd H e (.dK (putK (enc V.ref kvs) (Sum.inr k) (.ref l)))) := fun q o eq ne => by rw [upd_ne ne]; exact eq
  have od := odd_d h1
  have pd : PdA 6 (4 * 5001) (rs.map Row.d) := PdA.all (n := 4) (fun d hd => by
    obtain ⟨x, hx, rfl⟩ := List.mem_map.mp hd
    exact (ok x hx).1) (by rw [List.length_map]; exact few)
  refine RowsAt.put (LAt.keep hl pd (b.keepT od) ?_) (h2.but h3 b od)
  obtain ⟨vs, hv, _⟩ := hl
  rw [upd_ne (by rintro rfl; exact od.1 _ hv)]
def pqr : List Str := ["p", "q", "r"]
theorem abc_ok : ∀ z ∈ abc, z.cps.toList.all (fun c => decide (c < 1114112)) = true ∧ z.length ≤ 10 := by decide +kernel
theorem pqr_ok : ∀ z ∈ pqr, z.cps.toList.all (fun c => decide (c < 1114112)) = true ∧ z.length ≤ 10 := by decide +kernel
theorem findC_pd {rs : List Row} {t : Str} {fs : List PyData} (h : ∀ x ∈ rs, Pd 6 5000 x.d) : Pd 6 5000 (findC rs t fs) := by
  unfold findC
  cases e : rs.find? fun y => PyData.eqv (.tuple [.str y.t, .tuple y.fs]) (.tuple [.str t, .tuple fs]) with
  | none => exact Pd.none.mono (by decide) (by decide)
  | some y => exact (Pd.parts (h y (List.mem_of_find?_eq_some e))).mem y.r (by simp)
/-- what the law's dict has of a name, read with an empty list beside -/
theorem KAt.look {K : PySem.W.Frag} {H : Hp} {e em : Addr} {kn : List (Str × List Row)} (h : KAt K H e kn) (hm : H em = some (.lst [])) (k : Str) :
    ∃ kvs l, H e = some (.dK (enc V.ref kvs)) ∧ (valV (enc V.ref kvs) (Sum.inr k)).getD (.ref em) = .ref l ∧ LAt K H l ((rowsC kn k).map Row.d) := by
  obtain ⟨kvs, h1, h2, h3⟩ := h
  rcases h2.get k with ⟨e1, e2⟩ | ⟨a, rs, e1, e2, e3⟩
  · refine ⟨kvs, em, h1, by rw [valV_enc, e1]; rfl, ?_⟩
    unfold rowsC
    rw [e2]
    exact ⟨[], hm, .nil⟩
  · refine ⟨kvs, a, h1, by rw [valV_enc, e1]; rfl, ?_⟩
    unfold rowsC
    rw [e2]
    exact e3
theorem dig3 : ∀ n : Nat, n ≤ 2 → (Str.ofString (toString ((n : Nat) : Int))).cps.toList.all (fun c => decide (c < 1114112)) = true ∧ (Str.ofString (toString ((n : Nat) : Int))).length ≤ 10 := by
  intro n h
  match n, h with
  | 0, _ => decide +kernel
  | 1, _ => decide +kernel
  | 2, _ => decide +kernel
/-- the row that is added -/
def newRow (nm tx : Str) (fs : List PyData) : Row := ⟨nm, tx, fs, .tuple [.str "text", .str (tx ++ Str.ofString (toString ((fs.length : Nat) : Int))), .tuple []]⟩
theorem new_pd {nm tx : Str} {fs : List PyData} (h1 : nm ∈ abc) (h2 : tx ∈ pqr) (pf : PdA 4 3000 fs) (l : fs.length ≤ 2) : Pd 6 5000 (newRow nm tx fs).d := by
  obtain ⟨a1, a2⟩ := abc_ok nm h1
  obtain ⟨b1, b2⟩ := pqr_ok tx h2
  obtain ⟨c1, c2⟩ := dig3 _ l
  have e : Pd 1 0 (.tuple []) := PdA.nil.tup
  have t : Pd 0 20 (.str (tx ++ Str.ofString (toString ((fs.length : Nat) : Int)))) := Pd.str (codes_add (codesB b1) (codesB c1)) (by rw [len_app]; omega)
  have r := (PdA.cons ((pd_lit (z := "text") (by decide +kernel) (by decide)).mono (Nat.zero_le 1) (Nat.le_refl _)) (PdA.cons (t.mono (Nat.zero_le 1) (Nat.le_refl _)) (PdA.cons e PdA.nil))).tup
  exact ((PdA.cons ((pd_lit a1 a2).mono (Nat.zero_le 5) (Nat.le_refl _)) (PdA.cons ((pd_lit b1 b2).mono (Nat.zero_le 5) (Nat.le_refl _)) (PdA.cons pf.tup (PdA.cons (r.mono (by decide) (Nat.le_refl _)) PdA.nil)))).tup).mono (by decide) (by decide)
def abcd : List Str := ["a", "b", "c", "d"]
def spLaw (K : PySem.W.Frag) : Sp := fun vs H Q _ => ∃ (a : Addr) (ns : List Int), vs = [.ref a] ∧ SqL K H a (ns.map V.int) ∧ ns.length ≤ 63 ∧ ∀ H', Q (.bl true) H'
section
variable {P : Program} {w : World} {K : PySem.W.Frag} {mg : Str → Option Value} {base : Heap} {f CCache : Addr} {fd : FuncData}
theorem ok_law (F : Fun K "law" "law" s_law f fd) (z : Z mg) (claw_digits : Cal P w K mg base "_law_digits" 2 ["script", "first", "last"] (spDigits K))
    (claw_draw : Cal P w K mg base "_law_draw" 1 ["box", "many"] spDraw) (claw_alike : CalG P w K mg base "_law_alike" 1 ["one", "two"] (spAlike K))
    (claw_found : Cal P w K mg base "_law_found" 2 ["box"] (spFound K)) (claw_looked : Cal P w K mg base "_law_looked" 1 ["rows", "name", "text", "found"] (spLooked K))
    (kCache : CalK P w K mg base "Cache" CCache 1 ["self"] (spCInit K CCache)) (cCache_renderings : CalM P w K mg base CCache "renderings" 1 ["self", "name"] (spCRen K CCache))
    (cCache_add : CalM P w K mg base CCache "add" 2 ["self", "rendering"] (spCAdd K CCache)) (cCache_keep : CalM P w K mg base CCache "keep" 1 ["self", "names"] (spCKeep K CCache))
    (cCache_find : CalM P w K mg base CCache "find" 2 ["self", "name", "text", "found"] (spCFind K CCache)) : FnG P w K mg base 4 f fd ["script"] (spLaw K) := by
  refine FnG.mk' F sc_law (fun vs H Q E h => ?_) (fun cdv A outer s H vs Q gd hr h => ?_)
  · obtain ⟨a, ns, rfl, _⟩ := h
    rfl
  · obtain ⟨a, ns, rfl, hs, few, q⟩ := h
    refine ⟨_, (pss_cons (ps_set (i := 1) sc_law.nd rfl (Or.inl rfl) (pe_lst (pa_cons (pe_cal claw_digits (hr.mono (by decide)) (by rfl) (pa_cons (pv 0) (pa_cons pe_int (pa_cons pe_int pa_nil)))) (pa_cons pe_int pa_nil))))
      (pss_cons (ps_set (i := 2) sc_law.nd rfl (Or.inl rfl) (pe_mk0 kCache (hr.mono (by decide)) (by rfl)))
      (pss_cons (ps_set (i := 3) sc_law.nd rfl (Or.inl rfl) pe_dnewK)
      (C8.pss_cut (ps_if (PW.pt (pw_or (pt_cmpR op_ne (pe_cI (by rfl) z.c_RENDERINGS_MOST) pe_int (nomark _)) (pw_or1 (pt_cmpR (op_neD hr.units) (pe_calM cCache_renderings (hr.mono (by decide)) (pv 2) (pa_cons pe_str pa_nil)) (pe_lst pa_nil) (nomark _)))))
        (pss_one (ps_ret pe_bl))
        pss_nil)
      (pss_cons (ps_for PassesOwn.never rfl (pi_range1 (by rfl) z.range (pa_cons (pe_cal claw_draw (hr.mono (by decide)) (by rfl) (pa_cons (pv 1) (pa_cons pe_int pa_nil))) pa_nil)) (pg_name (i := 4) sc_law.nd rfl (Or.inl rfl))
        (pss_cons (ps_set (i := 5) sc_law.nd rfl (Or.inl rfl) (pe_ix ix_list (pe_lst (pa_cons pe_str (pa_cons pe_str (pa_cons pe_str pa_nil)))) (pe_cal claw_draw (hr.mono (by decide)) (by rfl) (pa_cons (pv 1) (pa_cons pe_int pa_nil))) (fun _ _ => rfl)))
        (pss_cons (ps_set (i := 6) sc_law.nd rfl (Or.inl rfl) (pe_ix ix_list (pe_lst (pa_cons pe_str (pa_cons pe_str (pa_cons pe_str pa_nil)))) (pe_cal claw_draw (hr.mono (by decide)) (by rfl) (pa_cons (pv 1) (pa_cons pe_int pa_nil))) (fun _ _ => rfl)))
        (pss_cons (ps_set (i := 7) sc_law.nd rfl (Or.inl rfl) (pe_cal claw_found (hr.mono (by decide)) (by rfl) (pa_cons (pv 1) pa_nil)))
        (C8.pss_cut (ps_if (pt_cmpR op_eq (pe_cal claw_draw (hr.mono (by decide)) (by rfl) (pa_cons (pv 1) (pa_cons pe_int pa_nil))) pe_int (nomark _))
          (pss_cons (ps_set (i := 8) sc_law.nd rfl (Or.inl rfl) (pe_slice sl_list (pe_lst (pa_cons pe_str (pa_cons pe_str (pa_cons pe_str pa_nil)))) po_none (po_some (pe_cal claw_draw (hr.mono (by decide)) (by rfl) (pa_cons (pv 1) (pa_cons pe_int pa_nil))))))
          (pss_cons (ps_if (pt_cmpR op_notN (pe_calM cCache_keep (hr.mono (by decide)) (pv 2) (pa_cons (pv 8) pa_nil)) pe_non (nomark _))
            (pss_one (ps_ret pe_bl))
            pss_nil)
          (pss_one (ps_for PassesOwn.never rfl (pi_list (pe_lst (pa_cons pe_str (pa_cons pe_str (pa_cons pe_str pa_nil))))) (pg_name (i := 9) sc_law.nd rfl (Or.inl rfl))
            (pss_one (ps_if (pt_cmpR op_notIn_seq (pv 9) (pv 8) (by rfl))
              (pss_one (ps_dput (hu_of hr) (pv 3) (pv 9) (pe_lst pa_nil) rfl))
              pss_nil))))))
          (pss_cons (ps_set (i := 10) sc_law.nd rfl (Or.inr rfl) (pe_tup (pa_cons (pv 5) (pa_cons (pv 6) (pa_cons (pe_callTy call_tuple_of (by rfl) z.tuple (by decide +kernel) (pa_cons (pv 7) pa_nil)) (pa_cons (pe_tup (pa_cons pe_str (pa_cons (pe_op op_add_str (pv 6) (pe_callTy call_str_int (by rfl) z.str (by decide +kernel) (pa_cons (pe_callB call_len_seq (by rfl) z.len PySem.boot_len (pa_cons (pv 7) pa_nil)) pa_nil))) (pa_cons (pe_tup pa_nil) pa_nil)))) pa_nil))))))
          (pss_cons (ps_if (pt_cmpR op_notN (pe_calM cCache_add (hr.mono (by decide)) (pv 2) (pa_cons (pv 10) pa_nil)) pe_non (nomark _))
            (pss_one (ps_ret pe_bl))
            pss_nil)
          (pss_one (ps_dput (hu_of hr) (pv 3) (pv 5) (pe_slice sl_list (pe_op op_cat (pe_lst (pa_cons (pv 10) pa_nil)) (pe_lc (own := [("other", 9)]) (g := (gName 9)) rfl sc_law.nd (pi_list (pe_dget2 (hu_of hr) (pv 3) (pv 5) (pe_lst pa_nil) ⟨by rfl, by rfl, by rfl, by rfl⟩)) (blkOk_by (own := [("other", 9)]) (N := ["script", "box", "cache", "known", "turn", "name", "text", "found", "names", "other", "row", "rows"]) (sc := defScope s_law) (by decide +kernel)) (fun _ _ _ _ _ => pg_name (i := 9) sc_law.nd rfl (Or.inl rfl)) (fun _ _ _ _ _ => (pts_one (pt_cmpR (op_neDK (K := K) rfl hr.units) (pv 9) (pv 10) (nomark _)))) (fun _ _ _ _ _ => (pv 9)))) po_none (po_some pe_int)) rfl)))))
        (C8.pss_cut (ps_for PassesOwn.never rfl (pi_list (pe_lst (pa_cons pe_str (pa_cons pe_str (pa_cons pe_str (pa_cons pe_str pa_nil)))))) (pg_name (i := 9) sc_law.nd rfl (Or.inl rfl))
          (pss_cons (ps_set (i := 11) sc_law.nd rfl (Or.inl rfl) (pe_calM cCache_renderings (hr.mono (by decide)) (pv 2) (pa_cons (pv 9) pa_nil)))
          (pss_cons (ps_if (pt_not (pt_val (pe_calG claw_alike gd (hr.mono (by decide)) (by rfl) (pa_cons (pv 11) (pa_cons (pe_dget2 (hu_of hr) (pv 3) (pv 9) (pe_lst pa_nil) ⟨by rfl, by rfl, by rfl, by rfl⟩) pa_nil)))))
            (pss_one (ps_ret pe_bl))
            pss_nil)
          (pss_one (ps_expr (pe_bm PySem.F.plainAttrs_list PySem.F.slot_list_append PySem.F.type_list_append mt_append (pv 11) (pa_cons pe_str pa_nil)))))))
        (pss_cons (ps_set (i := 7) sc_law.nd rfl (Or.inl rfl) (pe_cal claw_found (hr.mono (by decide)) (by rfl) (pa_cons (pv 1) pa_nil)))
        (pss_one (ps_if (pt_not (pt_val (pe_calG claw_alike gd (hr.mono (by decide)) (by rfl) (pa_cons (pe_calM cCache_find (hr.mono (by decide)) (pv 2) (pa_cons (pv 5) (pa_cons (pv 6) (pa_cons (pv 7) pa_nil)))) (pa_cons (pe_cal claw_looked (hr.mono (by decide)) (by rfl) (pa_cons (pe_dget2 (hu_of hr) (pv 3) (pv 5) (pe_lst pa_nil) ⟨by rfl, by rfl, by rfl, by rfl⟩) (pa_cons (pv 5) (pa_cons (pv 6) (pa_cons (pv 7) pa_nil))))) pa_nil)))))
          (pss_one (ps_ret pe_bl))
          pss_nil)))))))))
      (pss_one (ps_ret pe_bl))))))), ?_⟩
    -- the box
    refine ⟨.ref a, rfl, a, ns, 0, 63, rfl, hs, by decide, by decide, fun H1 p ds sm np hp fewd => ?_⟩
    refine ⟨by show 2 ≤ sizeLine; decide, fun b nb => ?_⟩
    have npb : p ≠ b := ne_of_none hp nb
    have box0 : Box (upd H1 b (.lst [.ref p, .int 0])) b := ⟨p, ds, 0, upd_same, by rw [upd_ne npb]; exact hp, npb, fewd⟩
    generalize upd H1 b (.lst [.ref p, .int 0]) = H2 at *
    -- the cache
    intro c dx nc ndx ndc
    refine ⟨c, dx, rfl, upd_same, fun d H3 nd ca kp => ⟨rfl, ?_⟩⟩
    have s23 : Same H2 H3 := fun q o e => kp q o (by rw [upd_ne (ne_of_none e nc), upd_ne (ne_of_none e ndx)]; exact e) (ne_of_none e nc)
    intro e ne
    have ls0 : LS K CCache (upd H3 e (.dK [])) b c d e [] [] 0 := by
      have s34 : Same H3 (upd H3 e (.dK [])) := same_new ne
      refine ⟨(box0.same s23).same s34, ca.same s34, ⟨[], upd_same, trivial, CFine.nil⟩, ?_, fun k => rfl, Nat.le_refl _, Nat.le_refl _, fun _ _ => rfl⟩
      obtain ⟨_, _, _, h, _⟩ := ca
      exact (ne_of_none h ne).symm
    generalize upd H3 e (.dK []) = H4 at *
    refine ⟨fun σ' H' => σ' = [some (.ref a), some (.ref b), some (.ref c), some (.ref e), none, none, none, none, none, none, none, none] ∧ LS K CCache H' b c d e [] [] 0, ?_, ?_⟩
    · refine ⟨rfl, _, rfl, iteF ?_⟩
      have ca4 := ls0.ca
      obtain ⟨dx', _, h1, _⟩ := ls0.ca
      refine ⟨_, rfl, c, dx', _, rfl, h1, rfl, c, d, [], "a", rfl, ca4, fun H5 l s5 nl hl => ?_⟩
      refine ⟨Nat.zero_le _, fun m nm => ?_⟩
      have e1 : Dp K (upd H5 m (.lst [])) (.ref l) (.list []) := (hl.same (PdA.nil (D := 1)) (same_new nm)).dp
      refine ⟨_, _, e1, .lst (.inl (.inl upd_same)) .nil, by decide +kernel, by decide +kernel, _, rfl, iteF ?_⟩
      exact ⟨rfl, ls0.same (s5.trans (same_new nm))⟩
    · rintro σ H5 ⟨rfl, ls5⟩
      refine ⟨.ref b, rfl, b, 31, rfl, by decide, ls5.box, fun n H6 n0 n1 d6 => ⟨n, rfl, by omega, by omega, ?_⟩⟩
      refine for_range (lo := 0) (n := n.toNat) (fun j σ H7 => ∃ (y4 y5 y6 y7 y8 y9 y10 y11 : Option V) (d : Addr) (cs kn : List (Str × List Row)), σ = [some (.ref a), some (.ref b), some (.ref c), some (.ref e), y4, y5, y6, y7, y8, y9, y10, y11] ∧ LS K CCache H7 b c d e cs kn j)
        ⟨_, _, _, _, _, _, _, _, d, [], [], rfl, ls5.drew d6⟩ ?_ ?_
      · clear ls5 ls0 d6 ca
        rintro j σ H7 hj ⟨y4, y5, y6, y7, y8, y9, y10, y11, d, cs, kn, rfl, ls⟩
        have j31 : j ≤ 31 := by omega
        -- name
        refine ⟨by show 3 ≤ sizeLine; decide, fun p1 np1 => ?_⟩
        have ls1 := ls.same (same_new (o := .lst (abc.map V.str)) np1)
        refine ⟨.ref b, rfl, b, 3, rfl, by decide, ls1.box, fun r H8 r0 r1 d8 => ?_⟩
        have hp1 := d8.keep p1 _ (ls.box.ne np1) upd_same
        obtain ⟨v, hv, at_v⟩ := at_in (xs := abc.map V.str) r0 r1
        obtain ⟨nm, hnm, rfl⟩ := List.mem_map.mp hv
        refine ⟨p1, _, _, _, rfl, rfl, .inl (.inl hp1), at_v, ?_⟩
        replace ls1 := ls1.drew d8
        clear hp1 at_v hv d8
        -- text
        refine ⟨by show 3 ≤ sizeLine; decide, fun p2 np2 => ?_⟩
        have ls2 := ls1.same (same_new (o := .lst (pqr.map V.str)) np2)
        refine ⟨.ref b, rfl, b, 3, rfl, by decide, ls2.box, fun r H9 r0 r1 d9 => ?_⟩
        have hp2 := d9.keep p2 _ (ls1.box.ne np2) upd_same
        obtain ⟨v, hv, at_v⟩ := at_in (xs := pqr.map V.str) r0 r1
        obtain ⟨tx, htx, rfl⟩ := List.mem_map.mp hv
        refine ⟨p2, _, _, _, rfl, rfl, .inl (.inl hp2), at_v, ?_⟩
        replace ls2 := ls2.drew d9
        clear hp2 at_v hv d9 ls1 ls
        obtain ⟨nm1, nm2⟩ := abc_ok nm hnm
        obtain ⟨tx1, tx2⟩ := pqr_ok tx htx
        -- found
        refine ⟨.ref b, rfl, b, rfl, ls2.box, fun H10 lf fs nlf d10 hlf pfs lfs => ?_⟩
        have lfb : lf ≠ b := ls2.box.ne nlf
        have ls3 := ls2.drew d10
        clear d10 nlf ls2
        refine ⟨fun σ' H' => ∃ (y8 y9 y10 : Option V) (d : Addr) (cs kn : List (Str × List Row)), σ' = [some (.ref a), some (.ref b), some (.ref c), some (.ref e), some (.int (0 + (j : Nat))), some (.str nm), some (.str tx), some (.ref lf), y8, y9, y10, y11] ∧ LS K CCache H' b c d e cs kn (j + 1), ?_, ?_⟩
        · refine ⟨.ref b, rfl, b, 9, rfl, by decide, ls3.box, fun r H11 r0 r1 d11 => ⟨rfl, _, rfl, ite2 (fun _ => ?_) (fun _ => ?_)⟩⟩
          · replace ls3 := ls3.drew d11
            clear d11 hlf
            refine ⟨by show 3 ≤ sizeLine; decide, fun p3 np3 => ?_⟩
            have ls4 := ls3.same (same_new (o := .lst (abc.map V.str)) np3)
            refine ⟨.ref b, rfl, b, 4, rfl, by decide, ls4.box, fun r4 H12 r40 r41 d12 => ?_⟩
            have hp3 := d12.keep p3 _ (ls3.box.ne np3) upd_same
            replace ls4 := ls4.drew d12
            obtain ⟨n4, rfl⟩ := Int.eq_ofNat_of_zero_le r40
            refine ⟨_, rfl, p3, _, rfl, .inl (.inl hp3), fun S nS => ?_⟩
            have cut : cutV (abc.map V.str) none (some (n4 : Int)) = (abc.take n4).map V.str := by rw [cutV_up, List.map_take]
            have hS : (upd H12 S (.lst (cutV [.str "a", .str "b", .str "c"] none (some (n4 : Int))))) S = some (.lst ((abc.take n4).map V.str)) := by rw [upd_same]; exact congrArg (fun z => some (HO.lst z)) cut
            have ls4' : LS K CCache (upd H12 S (.lst (cutV [.str "a", .str "b", .str "c"] none (some (n4 : Int))))) b c d e cs kn j := ls4.same (same_new nS)
            clear ls3 hp3 d12 np3 cut ls4
            generalize abc.take n4 = names at *
            generalize upd H12 S (.lst (cutV [.str "a", .str "b", .str "c"] none (some (n4 : Int)))) = H13 at *
            have ls4 := ls4'
            clear ls4'
            have ca4 := ls4.ca
            obtain ⟨dx', kv', h1, _⟩ := ls4.ca
            refine ⟨_, rfl, c, dx', _, rfl, h1, rfl, _, rfl, c, d, cs, S, names, rfl, ca4, .inl (.inl hS), fun H14 d' nd' ca' fr => ⟨rfl, _, rfl, iteF ?_⟩⟩
            have od := odd_i h1
            have bt : But c H13 H14 := fr
            have hS14 := bt _ _ hS (by rintro rfl; exact od.1 _ hS)
            obtain ⟨kvE, hE, _⟩ := ls4.ka
            have ec : e ≠ c := ne_of hE h1 (by intro z; cases z)
            have ka' := ls4.ka.but bt od ec
            have bx' := ls4.box.but bt od
            have ed' : e ≠ d' := ne_of_none hE nd'
            refine ⟨by show 3 ≤ sizeLine; decide, fun p5 np5 => ?_⟩
            refine ⟨p5, rfl, ⟨_, .inl (.inl upd_same)⟩, ?_⟩
            refine for_list (K := K) (a := p5) (xs := abc.map V.str) (fun i σ H' => ∃ (y9 : Option V) (kn' : List (Str × List Row)), σ = [some (.ref a), some (.ref b), some (.ref c), some (.ref e), some (.int (0 + (j : Nat))), some (.str nm), some (.str tx), some (.ref lf), some (.ref S), y9, y10, y11] ∧
              Box H' b ∧ CAt K CCache H' c d' (keepC cs names) ∧ KAt K H' e kn' ∧ H' p5 = some (.lst (abc.map V.str)) ∧ H' S = some (.lst (names.map V.str)) ∧ kn'.length ≤ kn.length + i ∧
              ∀ k, rowsC kn' k = if k ∈ abc.take i ∧ k ∉ names then [] else rowsC kn k)
              ⟨_, kn, rfl, bx'.same (same_new np5), ca'.same (same_new np5), ka'.drew (Drew.of bx' (same_new np5)) bx', upd_same, same_new np5 _ _ hS14, Nat.le_refl _, fun k => by rw [if_neg (by rintro ⟨h, _⟩; cases h)]⟩
              (fun i σ H' _ ⟨_, _, _, _, _, _, h, _⟩ => .inl (.inl h)) ?_ ?_
            · rintro i y σ H' hy ⟨y9, kn', rfl, bx, ca, ka, hp5, hS', len, req⟩
              rw [List.getElem?_map] at hy
              obtain ⟨o, ho, rfl⟩ : ∃ o, abc[i]? = some o ∧ y = V.str o := by
                cases e : abc[i]? with
                | none => rw [e] at hy; cases hy
                | some o => rw [e] at hy; exact ⟨o, rfl, (Option.some.inj hy).symm⟩
              have tk : abc.take (i + 1) = abc.take i ++ [o] := by rw [List.take_add_one, ho]; rfl
              refine ⟨_, rfl, _, rfl, S, _, rfl, .inl (.inl (.inl hS')), rfl, flat_str names, _, rfl, ?_⟩
              show if (!inV (.str o) (names.map V.str)) = true then _ else _
              rw [inV_str]
              refine ite2 (fun e1 => ?_) (fun e1 => ?_)
              · have nin : o ∉ names := by simpa using e1
                refine ⟨Nat.zero_le _, fun z0 nz0 => ?_⟩
                have sz : Same H' (upd H' z0 (.lst [])) := same_new nz0
                have kaz := ka.drew (Drew.of bx sz) bx
                obtain ⟨kvs, hE', lk, kp⟩ := kaz.put (k := o) (rs := []) (l := z0) ⟨[], upd_same, .nil⟩ (Nat.zero_le _) (fun x hx => by cases hx)
                refine ⟨_, rfl, _, rfl, e, _, rfl, DPut.k (k := Sum.inr o) hE' (small5 (by rw [show (enc V.ref kvs).length = kvs.length from List.length_map _, lk]; have := ls4.fewK; have : i < 3 := (List.getElem?_eq_some_iff.mp ho).1; omega)), ?_⟩
                have odE := odd_d hE'
                have btE : But e (upd H' z0 (.lst [])) (upd (upd H' z0 (.lst [])) e (.dK (putK (enc V.ref kvs) (Sum.inr o) (.ref z0)))) := fun q o eq ne => by rw [upd_ne ne]; exact eq
                obtain ⟨dxc, kvc, hc1, hc2, _⟩ := ca
                have caz : CAt K CCache (upd H' z0 (.lst [])) c d' (keepC cs names) := CAt.same ⟨dxc, kvc, hc1, hc2, by assumption⟩ sz
                refine ⟨_, putS kn' o [], rfl, (bx.same sz).but btE odE, caz.but btE odE ec.symm ed'.symm, kp, btE _ _ (sz _ _ hp5) (by rintro rfl; exact odE.1 _ (sz _ _ hp5)), btE _ _ (sz _ _ hS') (by rintro rfl; exact odE.1 _ (sz _ _ hS')), ?_, fun k => ?_⟩
                · have := len_put kn' o ([] : List Row)
                  omega
                · rw [rows_put, tk]
                  by_cases ek : k = o
                  · rw [if_pos ek, if_pos ⟨List.mem_append_right _ (by rw [ek]; exact List.mem_cons_self), by rw [ek]; exact nin⟩]
                  · rw [if_neg ek, req k]
                    by_cases hk : k ∈ abc.take i ∧ k ∉ names
                    · rw [if_pos hk, if_pos ⟨List.mem_append_left _ hk.1, hk.2⟩]
                    · rw [if_neg hk, if_neg (by
                        rintro ⟨h1, h2⟩
                        rcases List.mem_append.mp h1 with h | h
                        · exact hk ⟨h, h2⟩
                        · exact ek (List.mem_singleton.mp h))]
              · have yin : o ∈ names := by simpa using e1
                refine ⟨_, kn', rfl, bx, ca, ka, hp5, hS', by omega, fun k => ?_⟩
                rw [req k, tk]
                by_cases hk : k ∈ abc.take i ∧ k ∉ names
                · rw [if_pos hk, if_pos ⟨List.mem_append_left _ hk.1, hk.2⟩]
                · rw [if_neg hk, if_neg (by
                    rintro ⟨h1, h2⟩
                    rcases List.mem_append.mp h1 with h | h
                    · exact hk ⟨h, h2⟩
                    · exact h2 (by rw [List.mem_singleton.mp h]; exact yin))]
            · rintro σ H' ⟨y9, kn', rfl, bx, ca, ka, hp5, hS', len, req⟩
              rw [List.length_map] at req len
              rw [show abc.take abc.length = abc from List.take_length] at req
              refine ⟨_, _, _, d', keepC cs names, kn', rfl, bx, ca, ka, ed', fun k => ?_, ?_, ?_, fun k hk => ?_⟩
              · rw [rows_keep, req k]
                by_cases h1 : k ∈ names
                · rw [if_pos h1, if_neg (fun h => h.2 h1), ls4.eq k]
                · rw [if_neg h1]
                  by_cases h2 : k ∈ abc
                  · rw [if_pos ⟨h2, h1⟩]
                  · rw [if_neg (fun h => h2 h.1), ls4.out k h2]
              · exact Nat.le_trans (List.length_filter_le _ _) (Nat.le_succ_of_le ls4.fewC)
              · have := ls4.fewK
                have e3 : abc.length = 3 := rfl
                omega
              · rw [req k, if_neg (fun h => hk h.1), ls4.out k hk]
          · have bx10 := ls3.box
            replace ls3 := ls3.drew d11
            obtain ⟨fv, hf1, hf2⟩ := hlf
            have hf11 := d11.keep lf _ lfb hf1
            have df11 : DpAll K H11 fv fs := pfs.keep (d11.keepT bx10) hf2
            clear d11 hf1 hf2
            -- row = (name, text, tuple(found), ("text", ..))
            refine ⟨_, rfl, _, rfl, _, rfl, lf, fv, rfl, .inl ⟨.inl (.inl hf11), fun T nT => ?_⟩⟩
            refine ⟨_, rfl, _, rfl, lf, _, rfl, .inl (.inl (.inl (same_new nT _ _ hf11))), (fv.length : Int), rfl, ?_, ?_⟩
            · have := dpAll_len df11
              rw [this]
              have h2 : ((fs.length : Nat) : Int).natAbs ≤ 2 := by omega
              by_cases z : ((fs.length : Nat) : Int).natAbs = 0
              · rw [z]
                decide
              · exact (Nat.log2_lt z).mpr (Nat.lt_of_le_of_lt h2 (Nat.lt_of_lt_of_le (show 2 < 2 ^ 2 by decide) (Nat.pow_le_pow_right (n := 2) (by decide) (by decide))))
            rw [dpAll_len df11]
            refine ⟨_, _, rfl, rfl, sizeLine_big (by have := (dig3 _ lfs).2; omega), ?_⟩
            refine ⟨by show 0 ≤ sizeLine; decide, fun t1 nt1 => ?_⟩
            refine ⟨by show 3 ≤ sizeLine; decide, fun t2 nt2 => ?_⟩
            refine ⟨by show 4 ≤ sizeLine; decide, fun R nR => ?_⟩
            have e1 := (same_new (o := .tup []) nt1).trans ((same_new (o := .tup [.str "text", .str (tx ++ Str.ofString (toString ((fs.length : Nat) : Int))), .ref t1]) nt2).trans (same_new (o := .tup [.str nm, .str tx, .ref T, .ref t2]) nR))
            have e2 := (same_new (o := .tup [.str "text", .str (tx ++ Str.ofString (toString ((fs.length : Nat) : Int))), .ref t1]) nt2).trans (same_new (o := .tup [.str nm, .str tx, .ref T, .ref t2]) nR)
            have e3 := same_new (o := .tup [.str nm, .str tx, .ref T, .ref t2]) nR
            have eA := (same_new (o := .tup fv) nT).trans e1
            have hT := e1 _ _ (show (upd H11 T (.tup fv)) T = some (.tup fv) from upd_same)
            have h1' := e2 _ _ (show upd (upd H11 T (.tup fv)) t1 (.tup []) t1 = some (.tup []) from upd_same)
            have h2' := e3 _ _ (show upd (upd (upd H11 T (.tup fv)) t1 (.tup [])) t2 (.tup [.str "text", .str (tx ++ Str.ofString (toString ((fs.length : Nat) : Int))), .ref t1]) t2 = some (.tup [.str "text", .str (tx ++ Str.ofString (toString ((fs.length : Nat) : Int))), .ref t1]) from upd_same)
            have hR : upd (upd (upd (upd H11 T (.tup fv)) t1 (.tup [])) t2 (.tup [.str "text", .str (tx ++ Str.ofString (toString ((fs.length : Nat) : Int))), .ref t1])) R (.tup [.str nm, .str tx, .ref T, .ref t2]) R = some (.tup [.str nm, .str tx, .ref T, .ref t2]) := upd_same
            have ls4 := ls3.same eA
            have df12 := pfs.keep (Same.keepT eA) df11
            clear e1 e2 e3 ls3
            generalize upd (upd (upd (upd H11 T (.tup fv)) t1 (.tup [])) t2 (.tup [.str "text", .str (tx ++ Str.ofString (toString ((fs.length : Nat) : Int))), .ref t1])) R (.tup [.str nm, .str tx, .ref T, .ref t2]) = H12 at *
            have dR : Dp K H12 (.ref R) (newRow nm tx fs).d := .tup (.inl (.inl hR)) (.cons (.str _) (.cons (.str _) (.cons (.tup (.inl (.inl hT)) df12) (.cons (.tup (.inl (.inl h2')) (.cons (.str _) (.cons (.str _) (.cons (.tup (.inl (.inl h1')) .nil) .nil)))) .nil))))
            have pR := new_pd hnm htx pfs lfs
            generalize hx : newRow nm tx fs = x at *
            have xn : x.n = nm := by rw [← hx]; rfl
            clear hT h1' h2' hR df12 df11 hf11 eA
            -- cache.add(row)
            have ca4 := ls4.ca
            obtain ⟨dx', kv', h1, h2, h3, h4, h5⟩ := ls4.ca
            refine ⟨_, rfl, c, dx', _, rfl, h1, rfl, _, rfl, c, d, cs, .ref R, x, rfl, ca4, dR, pR, by have := ls4.fewC; omega, fun H13 ca13 bt => ⟨rfl, _, rfl, iteF ?_⟩⟩
            have od := odd_d h2
            have kt13 := But.keepT (K := K) bt od
            have ka13 := ls4.ka.but bt od ls4.ne
            have bx13 := ls4.box.but bt od
            have dR13 := pR.keep kt13 dR
            -- known[name] = ..
            refine ⟨_, rfl, by show 1 ≤ sizeLine; decide, fun A nA => ?_⟩
            have sA : Same H13 (upd H13 A (.lst [.ref R])) := same_new nA
            have ka14 := ka13.drew (Drew.of bx13 sA) bx13
            refine ⟨_, rfl, e, rfl, .inl ⟨_, .inl ka14.choose_spec.1⟩, _, rfl, Nat.zero_le _, fun em nem => ?_⟩
            have sM : Same (upd H13 A (.lst [.ref R])) (upd (upd H13 A (.lst [.ref R])) em (.lst [])) := same_new nem
            have ka15 := ka14.drew (Drew.of (bx13.same sA) sM) (bx13.same sA)
            obtain ⟨kvs, l0, hE, er, hl0⟩ := ka15.look upd_same nm
            refine ⟨_, DGet.k (k := Sum.inr nm) hE, ?_⟩
            rw [er]
            obtain ⟨vs, hl1, hl2⟩ := hl0
            obtain ⟨_, _, _, kf⟩ := ka13
            have hA : (upd (upd H13 A (.lst [.ref R])) em (.lst [])) A = some (.lst [.ref R]) := sM _ _ upd_same
            have bx15 := (bx13.same sA).same sM
            have dR15 := pR.keep (Same.keepT (sA.trans sM)) dR13
            have ca15 := (ca13.same sA).same sM
            generalize upd (upd H13 A (.lst [.ref R])) em (.lst []) = H15 at *
            refine ⟨l0, rfl, ⟨_, .inl (.inl hl1)⟩, fun D nD => ?_⟩
            have pdr := rows_pd kf nm
            have lenr := (rowsC_fine kf nm).1
            have lenv : vs.length = (rowsC kn nm).length := by rw [dpAll_len hl2, List.length_map]
            refine lc_list (K := K) (a := l0) (xs := vs) (fun i H' => Same H15 H' ∧ ∃ ws, H' D = some (.lst ws) ∧ ws.length ≤ i ∧ DpAll K H' ws ((((rowsC kn nm).take i).filter fun y => !PyData.eqv y.d x.d).map Row.d))
              ⟨same_new nD, [], upd_same, Nat.le_refl _, .nil⟩ (fun i H' _ ⟨s2, _⟩ => .inl (.inl (s2 _ _ hl1))) ?_ ?_
            · rintro i y H' hy ⟨s2, ws, hD, lw, da⟩
              obtain ⟨y', hy', dy⟩ := dpAll_get' hl2 hy
              rw [List.getElem?_map] at hy'
              obtain ⟨yr, hyr, rfl⟩ : ∃ yr, (rowsC kn nm)[i]? = some yr ∧ yr.d = y' := by
                cases e : (rowsC kn nm)[i]? with
                | none => rw [e] at hy'; cases hy'
                | some yr => rw [e] at hy'; exact ⟨yr, rfl, Option.some.inj hy'⟩
              have pdy := ((rowsC_fine kf nm).2 yr (List.mem_of_getElem? hyr)).1
              have il : i < vs.length := (List.getElem?_eq_some_iff.mp hy).1
              have tk : (rowsC kn nm).take (i + 1) = (rowsC kn nm).take i ++ [yr] := by rw [List.take_add_one, hyr]; rfl
              refine ⟨rfl, _, rfl, _, rfl, yr.d, x.d, pdy.keep (Same.keepT s2) dy, pR.keep (Same.keepT s2) dR15, pdy.sz.shaped (by decide), pR.sz.shaped (by decide), _, rfl, ite2 (fun e => ?_) (fun e => ?_)⟩
              · have s3 : Same H15 (upd H' D (.lst (ws ++ [y]))) := fun q o e2 => by
                  rw [upd_ne (ne_of_none e2 nD)]
                  exact s2 _ _ e2
                have kt : KeepT K H' (upd H' D (.lst (ws ++ [y]))) := KeepT.upd (by rw [hD]; intro xs h; cases h) (by rw [hD]; intro b xs h; cases h)
                have pdt := filt_pd kf nm (fun y => !PyData.eqv y.d x.d) i
                refine ⟨_, rfl, ws, hD, small5 (by omega), s3, ws ++ [y], upd_same, by rw [List.length_append]; show ws.length + 1 ≤ _; omega, ?_⟩
                rw [tk, List.filter_append, List.map_append]
                refine dpAll_app (pdt.keep kt da) ?_
                have : ([yr].filter fun y => !PyData.eqv y.d x.d) = [yr] := by
                  rw [List.filter_cons, if_pos e]
                  rfl
                rw [this]
                exact .cons (pdy.keep ((Same.keepT s2).trans kt) dy) .nil
              · refine ⟨s2, ws, hD, by omega, ?_⟩
                have : ([yr].filter fun y => !PyData.eqv y.d x.d) = [] := by
                  rw [List.filter_cons, if_neg e]
                  rfl
                rw [tk, List.filter_append, this, List.append_nil]
                exact da
            · rintro H16 ⟨s2, ws, hD, lw, da⟩
              rw [lenv, List.take_length] at da
              refine ⟨A, D, _, _, rfl, rfl, s2 _ _ hA, hD, sizeLine_big (by rw [lenv] at lw; show 1 + ws.length ≤ _; omega), fun B nB => ?_⟩
              refine ⟨_, rfl, B, _, rfl, .inl (.inl upd_same), fun S nS => ?_⟩
              have cut : cutV ([V.ref R] ++ ws) none (some 4) = (V.ref R :: ws).take 4 := cutV_up _ 4
              rw [cut]
              have sB3 : Same H16 (upd (upd H16 B (.lst ([V.ref R] ++ ws))) S (.lst ((V.ref R :: ws).take 4))) := (same_new nB).trans (same_new nS)
              have hS3 : (upd (upd H16 B (.lst ([V.ref R] ++ ws))) S (.lst ((V.ref R :: ws).take 4))) S = some (.lst ((V.ref R :: ws).take 4)) := upd_same
              generalize upd (upd H16 B (.lst ([V.ref R] ++ ws))) S (.lst ((V.ref R :: ws).take 4)) = H17 at *
              have s17 := s2.trans sB3
              have pdf := filt_pd kf nm (fun y => !PyData.eqv y.d x.d) (rowsC kn nm).length
              rw [List.take_length] at pdf
              have hLS : LAt K H17 S (((x :: (rowsC kn nm).filter fun y => !PyData.eqv y.d x.d).take 4).map Row.d) := by
                refine ⟨_, hS3, ?_⟩
                rw [List.map_take]
                exact dpAll_take 4 (.cons (pR.keep (Same.keepT s17) dR15) (pdf.keep (Same.keepT sB3) da))
              have ka17 := ka15.drew (Drew.of bx15 s17) bx15
              obtain ⟨kvs', hE', lk, kp⟩ := ka17.put (k := nm) (rs := (x :: (rowsC kn nm).filter fun y => !PyData.eqv y.d x.d).take 4) hLS (by rw [List.length_take]; omega) (fun y hy => by
                rcases List.mem_cons.mp (List.mem_of_mem_take hy) with rfl | h
                · exact ⟨pR, xn⟩
                · exact (rowsC_fine kf nm).2 y (List.mem_filter.mp h).1)
              refine ⟨_, rfl, _, rfl, e, _, rfl, DPut.k (k := Sum.inr nm) hE' (small5 (by rw [show (enc V.ref kvs').length = kvs'.length from List.length_map _, lk]; have := ls4.fewK; omega)), ?_⟩
              have odE := odd_d hE'
              have btE : But e H17 (upd H17 e (.dK (putK (enc V.ref kvs') (Sum.inr nm) (.ref S)))) := fun q o eq ne => by rw [upd_ne ne]; exact eq
              have ca17 := ca15.same s17
              obtain ⟨dxc, kvc, hc1, hc2, _⟩ := ca17
              refine ⟨_, _, _, d, addC cs x, _, rfl, (bx15.same s17).but btE odE, (ca15.same s17).but btE odE (ne_of hc1 hE' (by intro z; cases z)) ls4.ne.symm, kp, ls4.ne, fun k => ?_, ?_, ?_, fun k hk => ?_⟩
              · unfold addC
                rw [rows_put, rows_put, xn, ls4.eq nm, ls4.eq k]
              · have := len_put cs x.n ((x :: (rowsC cs x.n).filter fun y => !PyData.eqv y.d x.d).take 4)
                have := ls4.fewC
                unfold addC
                omega
              · have := len_put kn nm ((x :: (rowsC kn nm).filter fun y => !PyData.eqv y.d x.d).take 4)
                have := ls4.fewK
                omega
              · rw [rows_put, if_neg (by rintro rfl; exact hk hnm), ls4.out k hk]
        · clear hlf ls3
          rintro σ H11 ⟨y8, y9, y10, d, cs, kn, rfl, ls4⟩
          refine ⟨fun σ' H' => ∃ y9 y11 : Option V, σ' = [some (.ref a), some (.ref b), some (.ref c), some (.ref e), some (.int (0 + (j : Nat))), some (.str nm), some (.str tx), some (.ref lf), y8, y9, y10, y11] ∧ Same H11 H', ?_, ?_⟩
          · refine ⟨by show 4 ≤ sizeLine; decide, fun p5 np5 => ?_⟩
            refine ⟨p5, rfl, ⟨_, .inl (.inl upd_same)⟩, ?_⟩
            refine for_list (K := K) (a := p5) (xs := abcd.map V.str) (fun i σ H' => ∃ y9 y11 : Option V, σ = [some (.ref a), some (.ref b), some (.ref c), some (.ref e), some (.int (0 + (j : Nat))), some (.str nm), some (.str tx), some (.ref lf), y8, y9, y10, y11] ∧ Same H11 H' ∧ H' p5 = some (.lst (abcd.map V.str)))
              ⟨_, _, rfl, same_new np5, upd_same⟩ (fun i σ H' _ ⟨_, _, _, _, h⟩ => .inl (.inl h)) ?_ ?_
            · rintro i y σ H' hy ⟨y9, y11, rfl, s', hp5⟩
              rw [List.getElem?_map] at hy
              obtain ⟨o, ho, rfl⟩ : ∃ o, abcd[i]? = some o ∧ y = V.str o := by
                cases e : abcd[i]? with
                | none => rw [e] at hy; cases hy
                | some o => rw [e] at hy; exact ⟨o, rfl, (Option.some.inj hy).symm⟩
              have ls5 := ls4.same s'
              have ca5 := ls5.ca
              obtain ⟨dx', kv', h1, h2, h3, h4, h5⟩ := ls5.ca
              have pd := rows_pd h4 o
              refine ⟨_, rfl, c, dx', _, rfl, h1, rfl, _, rfl, c, d, cs, o, rfl, ca5, fun H12 l s12 nl hl => ?_⟩
              have ls6 := ls5.same s12
              refine ⟨_, rfl, _, rfl, e, rfl, .inl ⟨_, .inl ls6.ka.choose_spec.1⟩, _, rfl, Nat.zero_le _, fun em nem => ?_⟩
              have sM : Same H12 (upd H12 em (.lst [])) := same_new nem
              have ls7 := ls6.same sM
              obtain ⟨kvs, l0, hE, er, hl0⟩ := ls7.ka.look upd_same o
              refine ⟨_, DGet.k (k := Sum.inr o) hE, ?_⟩
              rw [er]
              have hl7 := hl.same pd sM
              rw [← ls4.eq o] at hl0
              have sh : Shows (.list ((rowsC cs o).map Row.d)) := Shows.of pd.sz.lst (by decide) (by decide)
              refine ⟨_, _, _, _, rfl, hl7.dp, hl0.dp, sh, sh, true, ?_, iteF ?_⟩
              · rw [decide_eq_true rfl]
              · obtain ⟨ws, hw, dw⟩ := hl7
                refine ⟨.ref l, rfl, .inl ⟨rfl, _, .inl (.inl hw)⟩, l, _, _, rfl, rfl, hw, small5 (by have := dpAll_len dw; rw [List.length_map] at this; have := (rowsC_fine h4 o).1; omega), ?_⟩
                have sEnd : Same H' (upd (upd H12 em (.lst [])) l (.lst (ws ++ [.str "more"]))) := fun q o' e' => by
                  rw [upd_ne (ne_of_none e' nl)]
                  exact sM _ _ (s12 _ _ e')
                exact ⟨_, _, rfl, s'.trans sEnd, sEnd _ _ hp5⟩
            · rintro σ H' ⟨y9, y11, rfl, s', hp5⟩
              exact ⟨_, _, rfl, s'⟩
          · rintro σ H12 ⟨y9, y11, rfl, s12⟩
            replace ls4 := ls4.same s12
            refine ⟨.ref b, rfl, b, rfl, ls4.box, fun H13 lf2 fs2 nlf d13 hlf pfs lfs => ?_⟩
            have ls5 := ls4.drew d13
            have ca5 := ls5.ca
            obtain ⟨dx', kv', h1, h2, h3, h4, h5⟩ := ls5.ca
            obtain ⟨tx1, tx2⟩ := pqr_ok tx htx
            refine ⟨_, rfl, c, dx', _, rfl, h1, rfl, _, rfl, _, rfl, _, rfl, c, d, cs, nm, tx, lf2, fs2, rfl, ca5, codesB tx1, by omega, hlf, pfs, fun H14 v s14 dv => ?_⟩
            have ls6 := ls5.same s14
            refine ⟨_, rfl, e, rfl, .inl ⟨_, .inl ls6.ka.choose_spec.1⟩, _, rfl, Nat.zero_le _, fun em nem => ?_⟩
            have sM : Same H14 (upd H14 em (.lst [])) := same_new nem
            have ls7 := ls6.same sM
            obtain ⟨kvs, l0, hE, er, hl0⟩ := ls7.ka.look upd_same nm
            refine ⟨_, DGet.k (k := Sum.inr nm) hE, ?_⟩
            rw [er]
            rw [← ls4.eq nm] at hl0
            have fine := rowsC_fine h4 nm
            have pdv : Pd 6 5000 (findC (rowsC cs nm) tx fs2) := findC_pd fun x hx => (fine.2 x hx).1
            have lf7 := hlf.same pfs (s14.trans sM)
            refine ⟨_, rfl, _, rfl, _, rfl, l0, lf2, rowsC cs nm, nm, tx, fs2, rfl, hl0, fun x hx => (fine.2 x hx).1, lf7, pfs, fun H15 v2 s15 dv2 => ?_⟩
            rw [look_find fun x hx => (fine.2 x hx).2] at dv2
            have sh : Shows (findC (rowsC cs nm) tx fs2) := Shows.of pdv.sz (by decide) (by decide)
            refine ⟨_, _, _, _, rfl, pdv.keep (Same.keepT (sM.trans s15)) dv, dv2, sh, sh, true, ?_, iteF ?_⟩
            · rw [decide_eq_true rfl]
            · exact ⟨_, _, _, _, _, _, _, _, d, cs, kn, rfl, ls7.same s15⟩
      · rintro σ H7 _
        exact q H7
end
end K06

namespace K06
open PySem PySem.Spec PyProof.Rows L2 Pg
/-! what the top has written -/
theorem all_mk {l : PySem.W.OpenLaw} {w : World} {K : PySem.W.Frag} {h : Heap} {mg : Str → Option Value} {fa f0 f1 f2 f3 f4 f5 f6 f7 f8 f9 f10 f11 CCache : Addr} (X : K.In h) (G : h.Ns mainGlobals mg) (hfa : mg "law" = some (.ref fa))
    {od0 an0 od1 an1 od2 an2 od3 an3 od4 an4 od5 an5 od6 an6 od7 an7 od8 an8 od9 an9 od10 an10 od11 an11 : Option Addr} {sl0 sl1 sl2 sl3 sl4 sl5 sl6 sl7 sl8 sl9 sl10 sl11 : Array (Option Value)} {oc0 kV0 dc0 pm0 cd0 ct0 oc1 kV1 dc1 pm1 cd1 ct1 oc2 kV2 dc2 pm2 cd2 ct2 oc3 kV3 dc3 pm3 cd3 ct3 oc4 kV4 dc4 pm4 cd4 ct4 oc5 kV5 dc5 pm5 cd5 ct5 oc6 kV6 dc6 pm6 cd6 ct6 oc7 kV7 dc7 pm7 cd7 ct7 oc8 kV8 dc8 pm8 cd8 ct8 oc9 kV9 dc9 pm9 cd9 ct9 oc10 kV10 dc10 pm10 cd10 ct10 oc11 kV11 dc11 pm11 cd11 ct11 : Value} {t0 : Tok}
    (a0 : PySem.W.findIn K (.ref CCache) "__init__" = some (some (.ref f0))) (i0 : PySem.W.isFn K (.ref f0) = true) (l0 : K.lookup f0 = some ⟨oc0, od0, .func (PySem.W.fnOf "__init__" "Cache.__init__" (defArgs s_Cache_init) (defBody s_Cache_init) (defScope s_Cache_init) .none kV0 dc0 pm0 an0 cd0 ct0), sl0⟩)
      (c0 : PySem.W.codeIn K cd0 "Cache.__init__" = true) (k0 : PySem.W.keepIn K (.ref f0) = true)
    (a1 : PySem.W.findIn K (.ref CCache) "renderings" = some (some (.ref f1))) (i1 : PySem.W.isFn K (.ref f1) = true) (l1 : K.lookup f1 = some ⟨oc1, od1, .func (PySem.W.fnOf "renderings" "Cache.renderings" (defArgs s_Cache_renderings) (defBody s_Cache_renderings) (defScope s_Cache_renderings) .none kV1 dc1 pm1 an1 cd1 ct1), sl1⟩)
      (c1 : PySem.W.codeIn K cd1 "Cache.renderings" = true) (k1 : PySem.W.keepIn K (.ref f1) = true)
    (a2 : PySem.W.findIn K (.ref CCache) "add" = some (some (.ref f2))) (i2 : PySem.W.isFn K (.ref f2) = true) (l2 : K.lookup f2 = some ⟨oc2, od2, .func (PySem.W.fnOf "add" "Cache.add" (defArgs s_Cache_add) (defBody s_Cache_add) (defScope s_Cache_add) .none kV2 dc2 pm2 an2 cd2 ct2), sl2⟩)
      (c2 : PySem.W.codeIn K cd2 "Cache.add" = true) (k2 : PySem.W.keepIn K (.ref f2) = true)
    (a3 : PySem.W.findIn K (.ref CCache) "keep" = some (some (.ref f3))) (i3 : PySem.W.isFn K (.ref f3) = true) (l3 : K.lookup f3 = some ⟨oc3, od3, .func (PySem.W.fnOf "keep" "Cache.keep" (defArgs s_Cache_keep) (defBody s_Cache_keep) (defScope s_Cache_keep) .none kV3 dc3 pm3 an3 cd3 ct3), sl3⟩)
      (c3 : PySem.W.codeIn K cd3 "Cache.keep" = true) (k3 : PySem.W.keepIn K (.ref f3) = true)
    (a4 : PySem.W.findIn K (.ref CCache) "find" = some (some (.ref f4))) (i4 : PySem.W.isFn K (.ref f4) = true) (l4 : K.lookup f4 = some ⟨oc4, od4, .func (PySem.W.fnOf "find" "Cache.find" (defArgs s_Cache_find) (defBody s_Cache_find) (defScope s_Cache_find) .none kV4 dc4 pm4 an4 cd4 ct4), sl4⟩)
      (c4 : PySem.W.codeIn K cd4 "Cache.find" = true) (k4 : PySem.W.keepIn K (.ref f4) = true)
    (a5 : PySem.W.nsIn K mainGlobals "_law_cell" = some (some (.ref f5))) (l5 : K.lookup f5 = some ⟨oc5, od5, .func (PySem.W.fnOf "_law_cell" "_law_cell" (defArgs s_law_cell) (defBody s_law_cell) (defScope s_law_cell) .none kV5 dc5 pm5 an5 cd5 ct5), sl5⟩)
      (c5 : PySem.W.codeIn K cd5 "_law_cell" = true) (k5 : PySem.W.keepIn K (.ref f5) = true)
    (a6 : PySem.W.nsIn K mainGlobals "_law_digits" = some (some (.ref f6))) (l6 : K.lookup f6 = some ⟨oc6, od6, .func (PySem.W.fnOf "_law_digits" "_law_digits" (defArgs s_law_digits) (defBody s_law_digits) (defScope s_law_digits) .none kV6 dc6 pm6 an6 cd6 ct6), sl6⟩)
      (c6 : PySem.W.codeIn K cd6 "_law_digits" = true) (k6 : PySem.W.keepIn K (.ref f6) = true)
    (a7 : PySem.W.nsIn K mainGlobals "_law_draw" = some (some (.ref f7))) (l7 : K.lookup f7 = some ⟨oc7, od7, .func (PySem.W.fnOf "_law_draw" "_law_draw" (defArgs s_law_draw) (defBody s_law_draw) (defScope s_law_draw) .none kV7 dc7 pm7 an7 cd7 ct7), sl7⟩)
      (c7 : PySem.W.codeIn K cd7 "_law_draw" = true) (k7 : PySem.W.keepIn K (.ref f7) = true)
    (a8 : PySem.W.nsIn K mainGlobals "_law_alike" = some (some (.ref f8))) (l8 : K.lookup f8 = some ⟨oc8, od8, .func (PySem.W.fnOf "_law_alike" "_law_alike" (defArgs s_law_alike) (defBody s_law_alike) (defScope s_law_alike) .none kV8 dc8 pm8 an8 cd8 ct8), sl8⟩)
      (c8 : PySem.W.codeIn K cd8 "_law_alike" = true) (k8 : PySem.W.keepIn K (.ref f8) = true)
    (a9 : PySem.W.nsIn K mainGlobals "_law_found" = some (some (.ref f9))) (l9 : K.lookup f9 = some ⟨oc9, od9, .func (PySem.W.fnOf "_law_found" "_law_found" (defArgs s_law_found) (defBody s_law_found) (defScope s_law_found) .none kV9 dc9 pm9 an9 cd9 ct9), sl9⟩)
      (c9 : PySem.W.codeIn K cd9 "_law_found" = true) (k9 : PySem.W.keepIn K (.ref f9) = true)
    (a10 : PySem.W.nsIn K mainGlobals "_law_looked" = some (some (.ref f10))) (l10 : K.lookup f10 = some ⟨oc10, od10, .func (PySem.W.fnOf "_law_looked" "_law_looked" (defArgs s_law_looked) (defBody s_law_looked) (defScope s_law_looked) .none kV10 dc10 pm10 an10 cd10 ct10), sl10⟩)
      (c10 : PySem.W.codeIn K cd10 "_law_looked" = true) (k10 : PySem.W.keepIn K (.ref f10) = true)
    (a11 : PySem.W.nsIn K mainGlobals "law" = some (some (.ref f11))) (l11 : K.lookup f11 = some ⟨oc11, od11, .func (PySem.W.fnOf "law" "law" (defArgs s_law) (defBody s_law) (defScope s_law) .none kV11 dc11 pm11 an11 cd11 ct11), sl11⟩)
      (c11 : PySem.W.codeIn K cd11 "law" = true) (k11 : PySem.W.keepIn K (.ref f11) = true)
    (qCache0 : PySem.W.nsIn K mainGlobals "Cache" = some (some (.ref CCache))) (qCache1 : PySem.W.plainGet K CCache Str.empty = true) (qCache2 : PySem.W.hasDictIn K CCache = true) (qCache3 : PySem.W.plainOver K CCache = true) (qCache4 : PySem.W.findIn K (.ref CCache) "__setattr__" = some (some (.builtin "object.__setattr__"))) (qCache5 : PySem.W.makesIn K CCache = true) (qCache6 : PySem.W.keepIn K (.ref CCache) = true)
    (pCache0 : PySem.W.findIn K (.ref CCache) "_renderings" = some none)
    (z0 : PySem.W.nsIn K mainGlobals "len" = some none)
    (z1 : PySem.W.nsIn K mainGlobals "range" = some none)
    (z2 : PySem.W.nsIn K mainGlobals "int" = some none)
    (z3 : PySem.W.nsIn K mainGlobals "repr" = some none)
    (z4 : PySem.W.nsIn K mainGlobals "list" = some none)
    (z5 : PySem.W.nsIn K mainGlobals "tuple" = some none)
    (z6 : PySem.W.nsIn K mainGlobals "str" = some none)
    (n0 : PySem.W.nsIn K mainGlobals "RENDERINGS_MOST" = some (some (.int 4 t0))) :
    ∃ fd : FuncData, (∀ (s : Shared) (v : Value), BindsTo s fd ⟨[v], []⟩ [("script", v)]) ∧ ∀ base : Heap, K.In base → base.Ns mainGlobals mg → FnG l.prog w K mg base 4 fa fd ["script"] (spLaw K) := by
  obtain rfl : fa = f11 := by
    have e := hfa.symm.trans (PySem.W.mg_of X G a11)
    cases e
    rfl
  have z : Z mg := ⟨PySem.W.mg_none_of X G z0, PySem.W.mg_none_of X G z1, PySem.W.mg_none_of X G z2, PySem.W.mg_none_of X G z3, PySem.W.mg_none_of X G z4, PySem.W.mg_none_of X G z5, PySem.W.mg_none_of X G z6, ⟨_, PySem.W.mg_of X G n0⟩⟩
  have tCache : T_Cache K mg CCache := ⟨⟨qCache1, qCache2, qCache3, qCache4⟩, PySem.W.mg_of X G qCache0, pCache0⟩
  have F0 := fun_mk (st := s_Cache_init) l0 c0 k0
  have b0 := F0.binds (ps := ["self"]) fun _ _ _ _ _ _ us hl => match us, hl with | [_], _ => rfl
  have F1 := fun_mk (st := s_Cache_renderings) l1 c1 k1
  have b1 := F1.binds (ps := ["self", "name"]) fun _ _ _ _ _ _ us hl => match us, hl with | [_, _], _ => rfl
  have F2 := fun_mk (st := s_Cache_add) l2 c2 k2
  have b2 := F2.binds (ps := ["self", "rendering"]) fun _ _ _ _ _ _ us hl => match us, hl with | [_, _], _ => rfl
  have F3 := fun_mk (st := s_Cache_keep) l3 c3 k3
  have b3 := F3.binds (ps := ["self", "names"]) fun _ _ _ _ _ _ us hl => match us, hl with | [_, _], _ => rfl
  have F4 := fun_mk (st := s_Cache_find) l4 c4 k4
  have b4 := F4.binds (ps := ["self", "name", "text", "found"]) fun _ _ _ _ _ _ us hl => match us, hl with | [_, _, _, _], _ => rfl
  have F5 := fun_mk (st := s_law_cell) l5 c5 k5
  have b5 := F5.binds (ps := ["script", "k"]) fun _ _ _ _ _ _ us hl => match us, hl with | [_, _], _ => rfl
  have F6 := fun_mk (st := s_law_digits) l6 c6 k6
  have b6 := F6.binds (ps := ["script", "first", "last"]) fun _ _ _ _ _ _ us hl => match us, hl with | [_, _, _], _ => rfl
  have F7 := fun_mk (st := s_law_draw) l7 c7 k7
  have b7 := F7.binds (ps := ["box", "many"]) fun _ _ _ _ _ _ us hl => match us, hl with | [_, _], _ => rfl
  have F8 := fun_mk (st := s_law_alike) l8 c8 k8
  have b8 := F8.binds (ps := ["one", "two"]) fun _ _ _ _ _ _ us hl => match us, hl with | [_, _], _ => rfl
  have F9 := fun_mk (st := s_law_found) l9 c9 k9
  have b9 := F9.binds (ps := ["box"]) fun _ _ _ _ _ _ us hl => match us, hl with | [_], _ => rfl
  have F10 := fun_mk (st := s_law_looked) l10 c10 k10
  have b10 := F10.binds (ps := ["rows", "name", "text", "found"]) fun _ _ _ _ _ _ us hl => match us, hl with | [_, _, _, _], _ => rfl
  have F11 := fun_mk (st := s_law) l11 c11 k11
  refine ⟨PySem.W.fnOf "law" "law" (defArgs s_law) (defBody s_law) (defScope s_law) .none kV11 dc11 pm11 an11 cd11 ct11, fun s v => .of_eq rfl, fun base _ _ => ?_⟩
  have C_Cache : CalK l.prog w K mg base "Cache" CCache 1 ["self"] (spCInit K CCache) := ⟨PySem.W.mg_of X G qCache0, f0, _, ⟨qCache5, a0, i0, qCache6⟩, ok_Cache_init F0 z tCache, b0⟩
  have C_Cache_renderings : CalM l.prog w K mg base CCache "renderings" 1 ["self", "name"] (spCRen K CCache) := ⟨tCache.cl, f1, _, ok_Cache_renderings F1 z tCache, b1, ⟨a1, i1, k1⟩⟩
  have C_Cache_add : CalM l.prog w K mg base CCache "add" 2 ["self", "rendering"] (spCAdd K CCache) := ⟨tCache.cl, f2, _, ok_Cache_add F2 z tCache C_Cache_renderings, b2, ⟨a2, i2, k2⟩⟩
  have C_Cache_keep : CalM l.prog w K mg base CCache "keep" 1 ["self", "names"] (spCKeep K CCache) := ⟨tCache.cl, f3, _, ok_Cache_keep F3 z tCache, b3, ⟨a3, i3, k3⟩⟩
  have C_Cache_find : CalM l.prog w K mg base CCache "find" 2 ["self", "name", "text", "found"] (spCFind K CCache) := ⟨tCache.cl, f4, _, ok_Cache_find F4 z tCache C_Cache_renderings, b4, ⟨a4, i4, k4⟩⟩
  have C_law_cell : Cal l.prog w K mg base "_law_cell" 1 ["script", "k"] (spCell K) := ⟨f5, _, ok_law_cell F5 z , b5, PySem.W.mg_of X G a5, k5⟩
  have C_law_digits : Cal l.prog w K mg base "_law_digits" 2 ["script", "first", "last"] (spDigits K) := ⟨f6, _, ok_law_digits F6 z C_law_cell, b6, PySem.W.mg_of X G a6, k6⟩
  have C_law_draw : Cal l.prog w K mg base "_law_draw" 1 ["box", "many"] spDraw := ⟨f7, _, ok_law_draw F7 z , b7, PySem.W.mg_of X G a7, k7⟩
  have C_law_alike : CalG l.prog w K mg base "_law_alike" 1 ["one", "two"] (spAlike K) := ⟨f8, _, ok_law_alike F8 z , b8, PySem.W.mg_of X G a8, k8⟩
  have C_law_found : Cal l.prog w K mg base "_law_found" 2 ["box"] (spFound K) := ⟨f9, _, ok_law_found F9 z C_law_draw, b9, PySem.W.mg_of X G a9, k9⟩
  have C_law_looked : Cal l.prog w K mg base "_law_looked" 1 ["rows", "name", "text", "found"] (spLooked K) := ⟨f10, _, ok_law_looked F10 z , b10, PySem.W.mg_of X G a10, k10⟩
  exact ok_law F11 z C_law_digits C_law_draw C_law_alike C_law_found C_law_looked C_Cache C_Cache_renderings C_Cache_add C_Cache_keep C_Cache_find
end K06
open PySem PySem.W PyProof.Rows
set_option maxRecDepth 100000 in
set_option maxHeartbeats 0 in
theorem PySem.Challenge.cw_pagesatonce_k06_cache_of_renderings_holds : PySem.Challenge.rw_pagesatonce_k06_cache_of_renderings.Holds := by
  w_on; o_law; k_head; (case hw => w_witness2)
  k_fill
  refine Pg.walkG (l := PySem.Challenge.rw_pagesatonce_k06_cache_of_renderings) (n := 63) (k := 4) (x := "script") (sp := K06.spLaw) rfl (by decide) rfl ⟨rfl, by decide, by decide⟩ (fun w h Y => PySem.W.kIn_of Y) ?F (fun K H a ns hl hS => ⟨a, ns, rfl, hS, hl, fun _ => rfl⟩)
  case F =>
    intro w mg fa h KX G hmg
    refine' K06.all_mk KX G hmg ?a0 ?i0 ?l0 ?c0 ?k0 ?a1 ?i1 ?l1 ?c1 ?k1 ?a2 ?i2 ?l2 ?c2 ?k2 ?a3 ?i3 ?l3 ?c3 ?k3 ?a4 ?i4 ?l4 ?c4 ?k4 ?a5 ?l5 ?c5 ?k5 ?a6 ?l6 ?c6 ?k6 ?a7 ?l7 ?c7 ?k7 ?a8 ?l8 ?c8 ?k8 ?a9 ?l9 ?c9 ?k9 ?a10 ?l10 ?c10 ?k10 ?a11 ?l11 ?c11 ?k11 ?qCache0 ?qCache1 ?qCache2 ?qCache3 ?qCache4 ?qCache5 ?qCache6 ?pCache0 ?z0 ?z1 ?z2 ?z3 ?z4 ?z5 ?z6 ?n0
    (case qCache0 => k_is); (case qCache1 => k_is); (case qCache2 => k_is); (case qCache3 => k_is); (case qCache4 => k_is); (case qCache5 => k_is)
    (case qCache6 => k_is); (case pCache0 => k_is); (case a0 => k_is); (case i0 => k_is); (case l0 => k_is); (case c0 => k_is)
    (case k0 => k_is); (case a1 => k_is); (case i1 => k_is); (case l1 => k_is); (case c1 => k_is); (case k1 => k_is)
    (case a2 => k_is); (case i2 => k_is); (case l2 => k_is); (case c2 => k_is); (case k2 => k_is); (case a3 => k_is)
    (case i3 => k_is); (case l3 => k_is); (case c3 => k_is); (case k3 => k_is); (case a4 => k_is); (case i4 => k_is)
    (case l4 => k_is); (case c4 => k_is); (case k4 => k_is); (case a5 => k_is); (case l5 => k_is); (case c5 => k_is)
    (case k5 => k_is); (case a6 => k_is); (case l6 => k_is); (case c6 => k_is); (case k6 => k_is); (case a7 => k_is)
    (case l7 => k_is); (case c7 => k_is); (case k7 => k_is); (case a8 => k_is); (case l8 => k_is); (case c8 => k_is)
    (case k8 => k_is); (case a9 => k_is); (case l9 => k_is); (case c9 => k_is); (case k9 => k_is); (case a10 => k_is)
    (case l10 => k_is); (case c10 => k_is); (case k10 => k_is); (case a11 => k_is); (case l11 => k_is); (case c11 => k_is)
    (case k11 => k_is); (case z0 => k_is); (case z1 => k_is); (case z2 => k_is); (case z3 => k_is); (case z4 => k_is)
    (case z5 => k_is); (case z6 => k_is); (case n0 => k_is)

