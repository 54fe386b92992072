import PyProof.Rows.All
import Wide.All
import OpenK.AllK
import Wide.FinOn
import PyProof.ReprRoads
import HandS.ForMost
import HandS.Strs
import HandS.StrMore
import HandS.TupAny
import HandS.RaiseMore
import HandS.Codes
import HandS.SetFor
import KE.KDictWalk
import PyProof.Rows.SortShellAny
import HandS.Style
import HandS.ForExc
import HandS.FStr
import HandS.ExcInit
import KE.KExcSuper
import PyProof.FString
import HandS.DictComp
import HandS.TryOnly
import HandS.IsInst
import HandS.Zip
import HandS.Rev
import HandS.ExcIs
import PyProof.Rows.ReprShort
import PyProof.ReprBulk
import PySem.Challenge.RW_pagesatonce_k42_cut_on_schedule
set_option Elab.async false
set_option linter.all false
set_option maxRecDepth 100000
set_option maxHeartbeats 4000000
/-! Promises of defs that are called while no repr is under way (for repr of lists and tuples). -/
namespace Pg
open PySem PySem.Spec PyProof.Rows L2

section
variable {P : Program} {w : World} {K : PySem.W.Frag} {mg : Str → Option Value} {base : Heap}

/-- the promise of a def that is only called where no repr runs -/
structure FnG (P : Program) (w : World) (K : PySem.W.Frag) (mg : Str → Option Value) (base : Heap) (k : Nat) (f : Addr) (fd : FuncData) (ps : List Str) (sp : Sp) : Prop where
  few : ∀ vs H Q E, sp vs H Q E → vs.length = ps.length
  go : ∀ (A : Around) (fr : List Env) (s : Shared) (H : Hp) (gs : Args) (us : List Value) (vs : List V) (Q : VK), A.guards = some [] → Room k A → Env0 P w K mg base A fr s H →
    BindsTo s fd gs (ps.zip us) → Vals vs us → sp vs H Q E0 → codeAny (model P w) A (.call (.ref f) gs) (CR CX0 fr P w H s Q E0) s

/-- an ordinary promise serves there too -/
theorem FnG.of {k : Nat} {f : Addr} {fd : FuncData} {ps : List Str} {sp : Sp} (F : FnOk P w K mg base CX0 k f fd ps sp) : FnG P w K mg base k f fd ps sp :=
  ⟨F.len, fun A fr s H gs us vs Q _ hr e b r h => F.run A fr s H gs us vs Q E0 hr e b r h⟩

theorem FnG.mk' {x qual : Str} {st : Stmt} {f : Addr} {fd : FuncData} {N ps : List Str} {k : Nat} {sp : Sp} (D : Fun K x qual st f fd) (S : FnScope N ps (defScope st)) (few : ∀ vs H Q E, sp vs H Q E → vs.length = ps.length)
    (body : ∀ (cd : Value) (A : Around) (fr : List Env) (s : Shared) (H : Hp) (vs : List V) (Q : VK), A.guards = some [] → Room k (A.deeper (envOfC qual (defScope st) s.heap.objs.size f cd)) → sp vs H Q E0 →
      ∃ t, PSs (cxOf CX0 P w K mg base N qual (defScope st) f cd A fr s H E0).nox (defBody st) t ∧ t { nx := fun _ H' => Q .non H', rt := Q } (start N vs) H) : FnG P w K mg base (k + 1) f fd ps sp := by
  obtain ⟨_, _, _, _, _, _, cd, _, _, rfl, at_f, rec_ok⟩ := D.ex
  constructor
  · exact few
  intro A fr s H gs us vs Q hg hr e b r h
  have inK : K.In s.heap := e.mod.kin.keeps (fun c o q => (e.bs c o q).left)
  have nl : s.heap.NoLimit := e.mod.nolimit.keeps (fun c o q => (e.bs c o q).left)
  have kinds : ∀ y ∈ ps.zip us, (defScope st).names.lookup y.1 = some .local ∨
      ((defScope st).names.lookup y.1 = some .cell ∧ ((cellsFrom (s.heap.objs.size + 1) (defScope st).names []).lookup y.1).isSome = true) := by
    intro y hy
    obtain ⟨y1, y2⟩ := y
    cases S.par y1 (List.of_mem_zip hy).left with
    | inl q => left; exact q
    | inr q => right; exact ⟨q, PySem.W.cellsFrom_some _ _ _ (Or.inl q)⟩
  apply codeAny_call_function hr.depth (inK _ _ at_f) rfl S.co S.gen rfl (PySem.W.codeRec_of inK rec_ok)
  apply b
  apply wpAny_newFunctionEnv_cells S.kind kinds
  intro env he s1 x
  subst he
  refine And.intro (nl.keeps x.toInCall.keep) (codeAny_func ?_)
  obtain ⟨t, ht, q⟩ := body cd A fr s H vs Q hg (hr.deeper _) h
  have J0 := inv_start (E := E0) (CX := CX0) S hr.hd e (few _ _ _ _ h) r x
  apply wpAny_mono (ht.nox.run [] s1 _ H _ J0 q)
  · intro fl s2 hs
    match fl, hs with
    | .ret u, hs => obtain ⟨v, _, H2, J, rv, z⟩ := hs; exact ⟨v, H2, J.os, J.bare, J.base, J.hok, rv, z⟩
    | .next, hs => obtain ⟨_, H2, J, z⟩ := hs; exact ⟨V.non, H2, J.os, J.bare, J.base, J.hok, rfl, z⟩
    | .brk, hs => obtain ⟨_, _, _, z⟩ := hs; exact z.elim
    | .cont, hs => obtain ⟨_, _, _, z⟩ := hs; exact z.elim
  · intro _ _ z
    exact z

/-- a callee by its name, with all its arguments given -/
def Cal (P : Program) (w : World) (K : PySem.W.Frag) (mg : Str → Option Value) (base : Heap) (x : Str) (k : Nat) (ps : List Str) (sp : Sp) : Prop :=
  ∃ f fd, FnOk P w K mg base CX0 k f fd ps sp ∧ Binds K fd ps [] ∧ mg x = some (.ref f) ∧ PySem.W.keepIn K (.ref f) = true
def CalG (P : Program) (w : World) (K : PySem.W.Frag) (mg : Str → Option Value) (base : Heap) (x : Str) (k : Nat) (ps : List Str) (sp : Sp) : Prop :=
  ∃ f fd, FnG P w K mg base k f fd ps sp ∧ Binds K fd ps [] ∧ mg x = some (.ref f) ∧ PySem.W.keepIn K (.ref f) = true
theorem Cal.mono {x : Str} {j k : Nat} {ps : List Str} {sp : Sp} (C : Cal P w K mg base x j ps sp) (h : j ≤ k) : Cal P w K mg base x k ps sp :=
  let ⟨f, fd, F, r⟩ := C
  ⟨f, fd, F.mono h, r⟩
end

section
variable {X : Cx} {k : Nat} {x : Str} {ps : List Str} {sp : Sp} {p pos : Pos} {e : Expr} {es : List Expr} {t : TA}

theorem pe_cal (C : Cal X.prog X.w X.K X.mg X.base x k ps sp) (hr : Room k X.A) (hg : Gl X x) (ha : PA X (e :: es) t) (hdb : (x == ("__debug__" : Str)) = false := by decide)
    (he : starEach (e :: es) X.env = (false, eval e X.env) :: starEach es X.env := by rfl) (hpl : (backTo pos (starEach es X.env)).any (·.1) = false := by rfl) :
    PE X (.Call (.Name x p) (e :: es) [] pos) (tCall sp [] E0 t) := by
  obtain ⟨_, _, F, b, g, kp⟩ := C
  exact pe_call F hr hg g kp b .nil pass0 ha hdb he hpl

theorem pe_calG (C : CalG X.prog X.w X.K X.mg X.base x k ps sp) (gd : X.A.guards = some []) (hr : Room k X.A) (hg : Gl X x) (ha : PA X (e :: es) t) (hdb : (x == ("__debug__" : Str)) = false := by decide)
    (he : starEach (e :: es) X.env = (false, eval e X.env) :: starEach es X.env := by rfl) (hpl : (backTo pos (starEach es X.env)).any (·.1) = false := by rfl) :
    PE X (.Call (.Name x p) (e :: es) [] pos) (tCall sp [] E0 t) := by
  obtain ⟨f, fd, F, b, g, kp⟩ := C
  constructor
  intro pins s σ H Q I h
  apply wpAny_Call_Name_kw (ld_glob I hg g ?_ hdb)
  apply PySem.W.callWith_K (h₀ := X.base) I.ok.mod.kin kp ?_ he hpl
  apply thn (ha.run pos pins s σ H _ I h)
  rintro us s1 ⟨vs, H1, I1, r, q⟩
  refine And.intro I1.kIn ?_
  have q' : sp (vs ++ []) H1 Q E0 := q
  rw [List.append_nil] at q'
  have n1 : us.length = ps.length := by rw [← r.length]; exact F.few _ _ _ _ q'
  have bb := b s1 us I1.kIn (by rw [List.append_nil]; exact n1)
  rw [List.append_nil] at bb
  apply wpAny_call
  apply codeAny_mono (F.go X.A X.stack s1 H1 ⟨us, []⟩ us vs Q gd hr I1.env0 bb r q')
  intro res s2 z
  match res, z with
  | .ok (.ret u), z => exact I1.after z
  | .ok .next, z => exact False.elim z
  | .ok .brk, z => exact False.elim z
  | .ok .cont, z => exact False.elim z
  | .error _, z => exact False.elim z
end

/-! ### repr of data -/
section
variable {X : Cx}
/-- repr(v): v data of any depth -/
def rRepr (K : PySem.W.Frag) : List V → Hp → VK → Prop := fun xs H Q => ∃ v d, xs = [v] ∧ Dp K H v d ∧ d.showable = true ∧ d.hasDict = false ∧ d.depth ≤ 40 ∧ d.shown.length ≤ sizeLine ∧ Q (.str d.shown) H
theorem call_reprD (gd : X.A.guards = some []) (hu : X.A.units + 64 < cLine) : CallR X (.builtin "repr") (rRepr X.K) := by
  intro pins s σ H xs us Q I r h
  obtain ⟨v, d, rfl, hd, sh, nd, dep, sz, q⟩ := h
  obtain ⟨u, rfl, ru⟩ := vals1 r
  have fin : ∀ (h' : Heap) (u : Tok) (tk : Nat), (∀ b o, s.heap.get? b = some o → h'.get? b = some o) → EP X pins σ Q (.str d.shown u) { s with heap := h', toks := tk } :=
    fun h' u tk kp => ⟨.str d.shown, H, I.kept kp, ⟨u, rfl⟩, q⟩
  obtain ⟨as, rd⟩ := Dp.reads I d v u hd ru
  cases hd with
  | lst hs ha =>
    cases ru
    exact repr_of_reads' rd sh (PyData.noDict_hsm nd) gd (by omega) (fun _ _ z => z) fin sz
  | tup hs ha =>
    cases ru
    exact repr_of_reads' rd sh (PyData.noDict_hsm nd) gd (by omega) (fun _ _ z => z) fin sz
  | non =>
    cases ru
    exact PySem.P.repr_of_none (fin _ _ _ fun _ _ z => z)
  | bl b =>
    cases ru
    exact PySem.P.repr_of_bool (by simpa only [PyData.shown] using fin s.heap _ (s.toks + 1) fun _ _ z => z)
  | int i =>
    obtain ⟨t, rfl⟩ := ru
    exact PySem.P.repr_of_int (by simpa [PyData.showable] using sh) (by simpa only [PyData.shown] using fin s.heap _ (s.toks + 1) fun _ _ z => z)
  | str z =>
    obtain ⟨t, rfl⟩ := ru
    exact PySem.P.repr_of_str (by simpa only [PyData.shown] using fin s.heap _ (s.toks + 1) fun _ _ z => z) (by simpa only [PyData.shown] using sz)
end

/-! ### the law's own entry -/
section
variable {P : Program} {w : World} {K : PySem.W.Frag} {mg mb : Str → Option Value}
/-- the state in which the law is entered: at most the script is tracked -/
structure Entry (P : Program) (w : World) (K : PySem.W.Frag) (H : Hp) (h : Heap) (a : Addr) (ns : List Int) : Prop where
  only : Only H
  seq : SqL K H a (ns.map V.int)
  held : HOk P w H h
  nope : ∀ b, b ≠ a → H b = none
  off : H a = none ∨ K.lookup a = none
theorem Entry.there {s : Shared} {a : Addr} {vs : List Value} {ns : List Int} (hk : K.In s.heap) (at_a : s.heap.get? a = some { cls := .type "list", data := .seq vs.toArray }) (hi : IntsAre vs ns) (few : ns.length ≤ sizeLine) :
    ∃ H, Entry P w K H s.heap a ns := by
  have rel := vals_ints hi
  by_cases e : ∃ o, K.lookup a = some o
  · obtain ⟨o, e⟩ := e
    obtain rfl : o = { cls := .type "list", data := .seq vs.toArray } := Option.some.inj ((hk a o e).symm.trans at_a)
    have nl : ∀ b u, (fun _ => none : Hp) b = some u → False := fun b u q => by cases q
    exact ⟨fun _ => none, fun _ => Or.inl rfl, Or.inr ⟨_, vs.toArray, _, e, rfl, rfl, rfl, by rw [List.size_toArray, hi.length]; exact few, by simpa using rel⟩, fun b u q => (nl b u q).elim, fun _ _ => rfl, Or.inl rfl⟩
  · have e' : K.lookup a = none := by
      cases q : K.lookup a with
      | none => rfl
      | some o => exact absurd ⟨o, q⟩ e
    refine ⟨fun b => if b = a then some (.frz { cls := .type "list", data := .seq vs.toArray } (.lst (ns.map V.int))) else none, ?_, Or.inl (Or.inr ⟨_, if_pos rfl⟩), ?_, fun b hb => if_neg hb, Or.inr e'⟩
    · intro b
      by_cases hb : b = a
      · right; exact ⟨_, _, if_pos hb⟩
      · left; exact if_neg hb
    · intro b u q
      by_cases hb : b = a
      · subst hb
        simp only [if_pos] at q
        cases q
        exact ⟨at_a, by rw [List.length_map]; exact few, vs, _, rel, at_a⟩
      · simp [hb] at q
theorem enter_law {k : Nat} {fa a : Addr} {fd : FuncData} {x : Str} {sp : Sp} {s : Shared} {vs : List Value} {ns : List Int}
    (hk : K.In s.heap) (hn : s.heap.Ns mainGlobals mg) (hb : s.heap.Ns builtinsNs mb) (hbb : ∀ x : Str, x ≠ "__name__" → mb x = bootBuiltins x) (nl : s.heap.NoLimit) (hg : s.gens = #[])
    (at_a : s.heap.get? a = some { cls := .type "list", data := .seq vs.toArray }) (hi : IntsAre vs ns) (few : ns.length ≤ sizeLine) (hr : Room k callerA)
    (F : ∀ base : Heap, K.In base → base.Ns mainGlobals mg → FnG P w K mg base k fa fd [x] sp) (hbind : ∀ (s : Shared) (u : Value), BindsTo s fd ⟨[u], []⟩ [(x, u)])
    (hsp : ∀ H : Hp, Only H → SqL K H a (ns.map V.int) → sp [.ref a] H (fun v _ => v = .bl true) E0) :
    codeAny (model P w) callerA (.call (.ref fa) ⟨[.ref a], []⟩) (fun r s' => r = .ok (.ret (.bool true)) ∧ OldK s.heap s'.heap ∧ s'.os = s.os ∧ AllBare s'.gens) s := by
  obtain ⟨H, En⟩ := Entry.there (P := P) (w := w) hk at_a hi few
  have out : ∀ {b : Addr} {o : Obj}, s.heap.get? b = some o → b ≠ a → (hidT s.heap H).get? b = some o := fun q hne => hidT_get q (En.nope _ hne)
  have dicts : ∀ {b : Addr} {m : Str → Option Value}, s.heap.Ns b m → (hidT s.heap H).Ns b m := by
    rintro b m ⟨o, es, ep, q, d, r⟩
    refine ⟨o, es, ep, out q ?_, d, r⟩
    rintro rfl
    rw [at_a] at q
    cases q
    cases d
  have inK : K.In (hidT s.heap H) := by
    intro b o q
    by_cases hba : b = a
    · subst hba
      rcases En.off with z | z
      · exact hidT_get (hk _ _ q) z
      · rw [z] at q; cases q
    · exact out (hk _ _ q) hba
  have modl : Mod K mg (hidT s.heap H) := {
    kin := inK
    glob := dicts hn
    blt := ⟨mb, dicts hb, hbb⟩
    nolimit := by obtain ⟨mc, z1, z2⟩ := nl; exact ⟨mc, dicts z1, z2⟩ }
  have none_in : ∀ b, b ∈ frs ([] : List Env) → False := fun b z => by
    have z' : b ∈ ([] : List Addr) := z
    cases z'
  have e0 : Env0 P w K mg (hidT s.heap H) callerA [] s H := {
    frames := rfl
    mod := modl
    bs := fun b o q => of_hidT q
    bsz := Nat.le_of_eq (hidT_size _ _)
    funs := trivial
    frf := fun b z => (none_in b z).elim
    hok := En.held
    bare := .of_eq hg }
  apply codeAny_mono ((F _ inK (dicts hn)).go callerA [] s H ⟨[.ref a], []⟩ [.ref a] [.ref a] _ rfl hr e0 (hbind s (.ref a)) (.cons rfl .nil) (hsp H En.only En.seq))
  intro r s' z
  match r, z with
  | .error _, z => exact False.elim z
  | .ok .next, z => exact False.elim z
  | .ok .brk, z => exact False.elim z
  | .ok .cont, z => exact False.elim z
  | .ok (.ret u), z =>
    obtain ⟨v, H', os, bare, un, held, rv, rfl⟩ := z
    cases rv
    refine ⟨rfl, OldK.of_keep ?_, os, bare⟩
    intro b o q
    rcases En.only b with y | ⟨ob, xs, y⟩
    · exact un.keep b o q y (none_in b) (by intro y2; cases y2)
    · have y1 := (En.held b _ y).left
      have y2 := (held b _ (un.frzs b ob _ y)).left
      rw [y1] at q
      cases q
      exact y2
end

/-- the goal that k_head leaves, from the law's promise -/
theorem walkG {l : PySem.W.OpenLaw} {n k : Nat} {q : Program} {loose : List Str} {XP : (Str → Option Value) → Heap → Prop} {YP : World → Heap → Prop} {d : DefRec} {K : Params → PySem.W.Frag} {sp : PySem.W.Frag → Sp} {x : Str}
    (hn : l.most = some n) (few : n ≤ sizeLine) (hdf : d.params.defaults = []) (hr : Room k callerA) (hY : ∀ (w : World) (h : Heap), YP w h → (K w.params).In h)
    (F : ∀ (w : World) (mg : Str → Option Value) (fa : Addr) (h : Heap), (K w.params).In h → h.Ns mainGlobals mg → mg d.name = some (.ref fa) →
      ∃ fd : FuncData, (∀ (s : Shared) (u : Value), BindsTo s fd ⟨[u], []⟩ [(x, u)]) ∧ ∀ base : Heap, (K w.params).In base → base.Ns mainGlobals mg → FnG l.prog w (K w.params) mg base k fa fd [x] (sp (K w.params)))
    (hsp : ∀ (K : PySem.W.Frag) (H : Hp) (a : Addr) (ns : List Int), ns.length ≤ n → SqL K H a (ns.map V.int) → sp K [.ref a] H (fun v _ => v = .bl true) E0) :
    PySem.W.WalkO q loose XP YP l.row.toRowW d [] (fun f vs => PySem.call f vs) := by
  apply Att.attach_call hn hdf
  intro w s0 s1 mg mb fa o pm cd doc a vs ns G Y ho hd hcd hmg hobj hints hlen hg
  obtain ⟨fd, hb, hF⟩ := F w mg fa _ (hY w _ Y) G.T.g hmg
  exact enter_law (hY w _ Y) G.T.g G.T.b G.T.builtins G.T.nolimit hg hobj hints (Nat.le_trans hlen few) hr hF hb (fun H _ hS => hsp _ H a ns hlen hS)
end Pg

/-! len(set(names)) for texts, a text times a number. -/
namespace Pg
open PySem PySem.Spec PyProof.Rows L2

/-- how many different texts there are: each counted where it stands first -/
def cntS : List Str → Nat
  | [] => 0
  | x :: r => (if x ∈ r then 0 else 1) + cntS r
theorem cntS_le : ∀ l : List Str, cntS l ≤ l.length
  | [] => Nat.le_refl 0
  | x :: r => by
    have h := cntS_le r
    show (if x ∈ r then 0 else 1) + cntS r ≤ r.length + 1
    split <;> omega
theorem cntS_full : ∀ l : List Str, cntS l = l.length ↔ l.Nodup
  | [] => by simp [cntS]
  | x :: r => by
    have h := cntS_full r
    have h1 := cntS_le r
    rw [List.nodup_cons, ← h]
    show (if x ∈ r then 0 else 1) + cntS r = r.length + 1 ↔ _
    split
    · rename_i m
      constructor
      · intro z; omega
      · intro z; exact absurd m z.1
    · rename_i m
      constructor
      · intro z; exact ⟨m, by omega⟩
      · intro z; omega
theorem cntS_snoc : ∀ (l : List Str) (x : Str), cntS (l ++ [x]) = if x ∈ l then cntS l else cntS l + 1
  | [], x => by simp [cntS]
  | y :: r, x => by
    have ih := cntS_snoc r x
    show (if y ∈ r ++ [x] then 0 else 1) + cntS (r ++ [x]) = if x ∈ y :: r then (if y ∈ r then 0 else 1) + cntS r else (if y ∈ r then 0 else 1) + cntS r + 1
    rw [ih]
    by_cases e : x = y
    · subst e
      by_cases m : x ∈ r <;> simp [m] <;> omega
    · have e' : ¬ y = x := fun z => e z.symm
      by_cases m : x ∈ r <;> by_cases m2 : y ∈ r <;> simp [m, m2, e, e'] <;> omega

section
variable {prog : Program} {w : World} {A : Around} {R : Result → Shared → Prop}
theorem setOf_moved {h h' : Heap} {S : Addr} {g : Str → Bool} {c : Nat} (z : h.SetOf (PySem.strKind prog w) S g c) (kp : ∀ o, h.get? S = some o → h'.get? S = some o) : h'.SetOf (PySem.strKind prog w) S g c := by
  obtain ⟨o, es, ep, tb, ho, more⟩ := z
  exact ⟨o, es, ep, tb, kp o ho, more⟩
/-- the loop of set.update over texts -/
theorem set_texts_loop {I : Addr} {fp wr : List Addr} {G : Array GenState → Array GenState → Prop} {n : Nat} {Pv : Nat → Value → Prop} {St : Nat → Shared → Prop}
    (W : WalksS prog w A.in1 I fp wr G n Pv St) (S : Addr) (off : S ∉ fp) (xs : List Str) (hn : n = xs.length) (room : xs.length + 1 < scanBound)
    (vals : ∀ i v, Pv i v → ∃ x t, xs[i]? = some x ∧ v = .str x t) :
    ∀ (left i : Nat) (s : Shared), i + left = n → St i s → s.heap.SetOf (PySem.strKind prog w) S (fun x => decide (x ∈ xs.take i)) (cntS (xs.take i)) →
      (∀ s', Moved (S :: wr) G s s' → s'.heap.SetOf (PySem.strKind prog w) S (fun x => decide (x ∈ xs)) (cntS xs) → R (.ok (.ret .none)) s') →
      codeAny (model prog w) A (.builtin "set.update.loop" ⟨[.ref S, .ref I], []⟩) R s := by
  have offw : S ∉ wr := fun z => off (W.sub _ z)
  have sub : ∀ b ∈ wr, b ∈ S :: wr := fun b z => List.mem_cons_of_mem _ z
  intro left
  induction left with
  | zero =>
    intro i s e st set fin
    obtain rfl : i = n := by omega
    apply codeAny_builtin PyProof.Rows.F.entry_set_update_loop
    rw [Around.under_plainId PyProof.Rows.F.plain_set_update_loop _]
    show wpAny _ A.in1 (pyNext (.ref I) >>= _) _ _ s
    apply wpAny_bind
    apply W.done s _ _ st
    intro s' mv
    have all : xs.take i = xs := List.take_of_length_le (by omega)
    rw [all] at set
    show wpAny _ A.in1 (ret Value.none) _ _ s'
    exact wpAny_pure (fin s' (mv.mono sub) (setOf_moved set fun o q => mv.heap S o offw q))
  | succ left ih =>
    intro i s e st set fin
    have lt : i < n := by omega
    apply codeAny_builtin PyProof.Rows.F.entry_set_update_loop
    rw [Around.under_plainId PyProof.Rows.F.plain_set_update_loop _]
    show wpAny _ A.in1 (pyNext (.ref I) >>= _) _ _ s
    apply wpAny_bind
    apply W.item i s _ _ lt st
    intro v s' pv' st' mv
    obtain ⟨x, t, hx, rfl⟩ := vals i v pv'
    have set' := setOf_moved set fun o q => mv.heap S o offw q
    show wpAny _ A.in1 (holding [Value.str x t] (setAdd S (.str x t)) >>= _) _ _ s'
    apply wpAny_bind
    apply wpAny_holding
    unfold setAdd
    apply wpAny_holding
    apply wpAny_bind
    apply (PySem.strKind prog w).pyHash (k := x) (strKind_is _ _ _ _)
    have cle := cntS_le (xs.take i)
    rw [List.length_take] at cle
    apply wpAny_setAddHashed_of (knd := PySem.strKind prog w) (s := { s' with toks := s'.toks + 1 }) (strKind_is _ _ _ _) rfl set' (by omega)
    intro h' but set2
    have nx : xs.take (i + 1) = xs.take i ++ [x] := by
      rw [List.take_add_one, hx]
      rfl
    have set3 : h'.SetOf (PySem.strKind prog w) S (fun y => decide (y ∈ xs.take (i + 1))) (cntS (xs.take (i + 1))) := by
      refine PyProof.Rows.SetOf_congr set2 (fun y => ?_) ?_
      · rw [nx]
        simp [List.mem_append]
      · rw [nx, cntS_snoc]
        by_cases m : x ∈ xs.take i <;> simp [m]
    apply wpAny_pure
    refine ⟨plainId_quiet PyProof.Rows.F.plain_set_update_loop _, ih (i + 1) _ (by omega) ?_ set3 ?_⟩
    · apply W.frame _ s' _ _ st' (Nat.le_succ _)
      intro b hb o q
      have : b ≠ S := fun z => off (z ▸ hb)
      rw [but.2 b this]
      exact q
    · intro s2 mv2 z
      apply fin s2 _ z
      apply Moved.trans W.gtrans _ mv2
      apply (mv.mono sub).then_heap (Nat.le_succ _)
      intro b o hb q
      have : b ≠ S := fun z => hb (z ▸ List.mem_cons_self)
      rw [but.2 b this]
      exact q
end

set_option maxHeartbeats 8000000 in
/-- set(t), t a tuple of texts -/
theorem set_of_texts {prog : Program} {w : World} {A : Around} {E : Value → Shared → Prop} {s : Shared} {l : Addr} {items : Array Value} {xs : List Str} {Q : Value → Shared → Prop}
    (hot : A.handled = none) (tup : s.heap.IsTuple l items) (are : StrsAre items.toList xs) (room : xs.length + 1 < scanBound)
    (k : ∀ (h' : Heap) (tk : Nat), h'.SetOf (PySem.strKind prog w) s.heap.objs.size (fun x => decide (x ∈ xs)) (cntS xs) → (∀ b o, s.heap.get? b = some o → h'.get? b = some o) →
      Q (.ref s.heap.objs.size) { s with heap := h', toks := tk }) : wpAny (model prog w) A (call (.type "set") [.ref l]) Q E s := by
  have size : items.size = xs.length := by
    have z := StrsAre.len_eq are
    rw [Array.length_toList] at z
    exact z.symm ▸ rfl
  obtain ⟨_, _, mro⟩ := PySem.F.called_set.mro
  have made := PySem.F.called_set.made
  have sub := PySem.F.called_set.sub
  apply wpAny_call
  apply codeAny_of_tree
  show wpAny _ _ (callAny (.type "set") _) _ _ _
  apply wpAny_pure
  refine And.intro (Code.quiet_builtin _ (by decide +kernel)) ?_
  apply codeAny_builtin PySem.F.entry_type_call
  rw [Around.under_plain (weight_type_call_type "set" [.ref l] []) rfl]
  have t1 := PySem.F.called_set.notType
  have t2 := PySem.F.called_set.canCreate
  have t3 := PySem.F.typeCall_set_1 (.ref l)
  repeat (any_goals (first | assumption | wp_step))
  apply codeAny_mono (code_set_new_1 (.ref l) (E := E) (Q₁ := fun obj s1 => ∃ led : Bool, obj = .ref s.heap.objs.size ∧ s1 = { s with heap := s.heap.push { cls := .type "set", dict := none, data := .set #[] 0 (.fresh 0 0 led) } }) fun led => ⟨led, rfl, rfl⟩)
  intro r s1 hr
  match r, hr with
  | .error _, hr => exact hr
  | .ok .next, hr => exact hr.elim
  | .ok .brk, hr => exact hr.elim
  | .ok .cont, hr => exact hr.elim
  | .ok (.ret obj), hr =>
    obtain ⟨led, rfl, rfl⟩ := hr
    let so : Obj := { cls := .type "set", dict := none, data := .set #[] 0 (.fresh 0 0 led) }
    have here : (s.heap.push so).get? s.heap.objs.size = some so := Heap.get?_push_size _ rfl
    have typ : Shared.TypeIs { s with heap := s.heap.push so } (.ref s.heap.objs.size) "set" := ⟨_, here, rfl⟩
    have i1 := PySem.F.called_set.init.lookup
    have i2 := PySem.F.called_set.init.bind (.ref s.heap.objs.size)
    repeat (any_goals (first | assumption | wp_step))
    apply codeAny_mono (codeAny_call_builtin (R := wants (fun r s2 => r = .none ∧ ∃ h' tk, s2 = { s with heap := h', toks := tk } ∧
      h'.SetOf (PySem.strKind prog w) s.heap.objs.size (fun x => decide (x ∈ xs)) (cntS xs) ∧ (∀ b o, s.heap.get? b = some o → h'.get? b = some o)) E)
      PySem.F.called_set.init.plain PySem.F.entry_set_init (check_set_init_1 typ ?_))
    · intro r2 s2 hr2
      match r2, hr2 with
      | .error _, hr2 => exact hr2
      | .ok .next, hr2 => exact hr2.elim
      | .ok .brk, hr2 => exact hr2.elim
      | .ok .cont, hr2 => exact hr2.elim
      | .ok (.ret v2), hr2 =>
        obtain ⟨rfl, h', tk, rfl, set, kp⟩ := hr2
        repeat (any_goals (first | assumption | wp_step))
        exact k _ _ set kp
    · obtain ⟨⟨oc, od, oda, osl⟩, at_l, cl, nl, dl⟩ := tup
      simp only at cl dl
      subst cl
      subst dl
      have at_l2 : (s.heap.push so).get? l = some { cls := .type "tuple", dict := od, data := .seq items nl, slots := osl } := Heap.get?_push_of_some _ at_l
      have s1 := PySem.F.sub_tuple_set
      have s2 := PySem.F.sub_tuple_frozenset
      have ne : (Value.type "tuple" == Value.type "dict") = false := by decide
      have tup2 : (s.heap.push so).IsTuple l items := ⟨_, at_l2, rfl, nl, rfl⟩
      unfold Builtin.«set.__init__» noKeywords Builtin.Frozenset.updateFrom
      generalize hPI : pyIter = PI
      wp_walk
      subst hPI
      apply wpAny_pyIter_tuple tup2
      apply wpAny_bind
      apply wpAny_runValue
      have lt : l < s.heap.objs.size := Heap.lt_size at_l
      have sz : (s.heap.push so).objs.size = s.heap.objs.size + 1 := Heap.size_push ..
      have ne1 : l ≠ (s.heap.push so).objs.size := by rw [sz]; exact Nat.ne_of_lt (Nat.lt_succ_of_lt lt)
      have off : s.heap.objs.size ∉ [(s.heap.push so).objs.size, l] := by
        rw [sz]
        intro z
        rcases List.mem_cons.mp z with z | z
        · exact Nat.ne_of_lt (Nat.lt_succ_self _) z
        · rcases List.mem_cons.mp z with z | z
          · exact Nat.ne_of_gt lt z
          · cases z
      have hot3 : A.in1.in1.in1.handled = none := by simp [hot]
      apply set_texts_loop ((Walks.tuple hot3 _ l ne1 items).toS) s.heap.objs.size off xs size room ?vals items.size 0 _ (by omega) ⟨⟨_, Heap.get?_push_size _ rfl, rfl, rfl⟩, (tup2.push _)⟩ ?s0 ?fin
      case vals =>
        intro i v hv
        have hi : i < xs.length := by rw [← size]; exact (Array.getElem?_eq_some_iff.mp hv).1
        obtain ⟨t, e⟩ := SS.strs_at are i v (by rw [Array.getElem?_toList]; exact hv)
        refine ⟨xs[i], t, List.getElem?_eq_getElem hi, ?_⟩
        rw [e, List.getD_eq_getElem?_getD, List.getElem?_eq_getElem hi]
        rfl
      case s0 =>
        have here2 : ((s.heap.push so).push { cls := .type "tuple_iterator", data := .fields #[.ref l, .int 0 0] }).get? s.heap.objs.size = some so := Heap.get?_push_of_some _ here
        exact PyProof.Rows.SetOf_congr ((PyProof.Rows.setObjOf_fresh (knd := PySem.strKind prog w) led).setOf here2 (by unfold scanBound; omega)) (fun _ => rfl) rfl
      case fin =>
        intro s' mv set
        obtain ⟨h', g', d', tk', os'⟩ := s'
        obtain rfl : g' = s.gens := mv.gens
        obtain rfl : d' = s.drawn := mv.drawn
        obtain rfl : os' = s.os := mv.os
        show wpAny _ _ _ _ _ _
        apply wpAny_pure
        show wpAny _ _ (ret Value.none) _ _ _
        apply wpAny_pure
        refine ⟨rfl, h', tk', rfl, set, ?_⟩
        intro b o q
        have lb : b < s.heap.objs.size := Heap.lt_size q
        apply mv.heap b o _ (Heap.get?_push_of_some _ (Heap.get?_push_of_some _ q))
        intro z
        rcases List.mem_cons.mp z with z | z
        · exact Nat.ne_of_lt lb z
        · rcases List.mem_cons.mp z with z | z
          · rw [sz] at z
            exact Nat.ne_of_lt (Nat.lt_succ_of_lt lb) z
          · cases z

/-- len(set(t)), t a tuple of texts -/
def tCountT (K : PySem.W.Frag) (ta : TE) : TE := fun σ H Q => ta σ H fun x H1 => ∃ (l : Addr) (xs : List Str), x = .ref l ∧ SqT K H1 l (xs.map V.str) ∧ xs.length ≤ 1000 ∧ Q (.int (cntS xs : Nat)) H1
theorem pe_countT {X : Cx} {a : Expr} {ta : TE} {p p2 q pos : Pos} (hc : X.calm = true) (hg : Gl X "len") (hm : X.mg "len" = none) (hg2 : Gl X "set") (hm2 : X.mg "set" = none) (ha : PE X a ta)
    (na : starEach [a] X.env = (false, eval a X.env) :: starEach [] X.env := by rfl) : PE X (.Call (.Name "len" p) [.Call (.Name "set" p2) [a] [] q] [] pos) (tCountT X.K ta) := by
  constructor
  intro pins s σ H Q I h
  apply Call_ (ld_blt I hg hm boot_len ?_)
  apply PyProof.Rows.callWith_builtin1 (PyProof.Rows.args_cons ?_ rfl) rfl rfl
  apply Call_ (ld_blt I hg2 hm2 boot_set ?_)
  apply PyProof.Rows.callWith_type1 (PyProof.Rows.args_cons (thn (ha.run pins s σ H _ I h) ?_) na) na rfl
  rintro v s1 ⟨x, H1, I1, r1, l, xs, rfl, ht, few, z⟩
  apply PyProof.Rows.args_nil
  cases r1
  obtain ⟨its, r, tp, _⟩ := I1.tuple ht
  apply set_of_texts (I1.ok.hd hc) tp (by simpa using strsAre_of r) (by unfold scanBound; omega)
  intro h' tk set kp
  apply PyProof.Rows.args_nil
  obtain ⟨o, es, ep, tb, ho, ex, od, _, _, _, fl, nn⟩ := set
  have I2 : Inv X pins σ H1 { s1 with heap := h', toks := tk } := I1.kept kp
  have le := cntS_le xs
  apply call_len_set ho ex od fl (by rw [nn]; omega)
  exact ⟨.int (cntS xs : Nat), H1, I2.tok _, ⟨_, by rw [nn]⟩, z⟩
end Pg

/-! Loops over texts, products of texts, what the laws' helpers promise. -/
namespace Pg
open PySem PySem.Spec PyProof.Rows L2

/-! ### loops and comprehensions over a text -/
theorem for_str {z : Str} {g : TG} {tb : TS} {D : Ends} {σ : L2.St} {H : Hp} (Pv : Nat → L2.St → Hp → Prop) (h0 : Pv 0 σ H)
    (hs : ∀ i c σ H, z.cps.toList[i]? = some c → Pv i σ H → g (.str ⟨#[c]⟩) σ H fun σ2 H2 => tb { D with nx := Pv (i + 1), ct := Pv (i + 1), bk := D.nx } σ2 H2) (hd : ∀ σ H, Pv z.length σ H → D.nx σ H) :
    ∃ W : Nat → Nat → L2.St → Hp → Prop, (∃ m, W 0 m σ H) ∧ ∀ i m σ H, W i m σ H →
      ((Its z).stop i H ∧ D.nx σ H) ∨ ((Its z).go i H ∧ ∃ N : L2.St → Hp → Prop, (∀ σ' H', N σ' H' → ∃ m', m' < m ∧ W (i + 1) m' σ' H') ∧ ∀ x H', (Its z).yld i H x H' → g x σ H' fun σ2 H2 => tb { D with nx := N, ct := N, bk := D.nx } σ2 H2) := by
  refine ⟨fun i m σ H => i + m = z.length ∧ Pv i σ H, ⟨z.length, by omega, h0⟩, ?_⟩
  rintro i m σ H ⟨e, p⟩
  by_cases lt : i < z.length
  · refine Or.inr ⟨lt, Pv (i + 1), fun σ' H' q => ⟨m - 1, by omega, by omega, q⟩, ?_⟩
    rintro x H' ⟨rfl, c, hc, rfl⟩
    exact hs i c σ _ (by rw [Array.getElem?_toList]; exact hc) p
  · obtain rfl : i = z.length := by omega
    exact Or.inl ⟨Nat.le_refl _, hd σ H p⟩
theorem lc_str {z : Str} {g : TG} {tt : TT} {te : TE} {vs : List Nat} {σ : L2.St} {H1 : Hp} {D : Addr} {Qd : Hp → Prop} (Pv : Nat → Hp → Prop) (h0 : Pv 0 (upd H1 D (.lst [])))
    (hs : ∀ i c H, z.cps.toList[i]? = some c → Pv i H → g (.str ⟨#[c]⟩) (wipe σ vs) H fun σ2 H2 => wipe σ2 vs = wipe σ vs ∧ tt σ2 H2 fun b H3 =>
      if b = true then te σ2 H3 fun y H4 => ∃ acc, H4 D = some (.lst acc) ∧ acc.length < sizeLine ∧ Pv (i + 1) (upd H4 D (.lst (acc ++ [y]))) else Pv (i + 1) H3) (hd : ∀ H, Pv z.length H → Qd H) :
    ∃ W : Nat → Nat → Hp → Prop, (∃ m, W 0 m (upd H1 D (.lst []))) ∧ ∀ i m H, W i m H →
      ((Its z).stop i H ∧ Qd H) ∨ ((Its z).go i H ∧ ∃ Nx : Hp → Prop, (∀ H', Nx H' → ∃ m', m' < m ∧ W (i + 1) m' H') ∧ ∀ x H', (Its z).yld i H x H' → g x (wipe σ vs) H' fun σ2 H2 => wipe σ2 vs = wipe σ vs ∧ tt σ2 H2 fun b H3 =>
        if b = true then te σ2 H3 fun y H4 => ∃ acc, H4 D = some (.lst acc) ∧ acc.length < sizeLine ∧ Nx (upd H4 D (.lst (acc ++ [y]))) else Nx H3) := by
  refine ⟨fun i m H => i + m = z.length ∧ Pv i H, ⟨z.length, by omega, h0⟩, ?_⟩
  rintro i m H ⟨e, p⟩
  by_cases lt : i < z.length
  · refine Or.inr ⟨lt, Pv (i + 1), fun H' q => ⟨m - 1, by omega, by omega, q⟩, ?_⟩
    rintro x H' ⟨rfl, c, hc, rfl⟩
    exact hs i c _ (by rw [Array.getElem?_toList]; exact hc) p
  · obtain rfl : i = z.length := by omega
    exact Or.inl ⟨Nat.le_refl _, hd H p⟩

/-! ### a module's number -/
theorem pe_cI {X : Cx} {x : Str} {i : Int} {pos : Pos} (hg : Gl X x) (hm : ∃ t, X.mg x = some (.int i t)) (hd : (x == ("__debug__" : Str)) = false := by decide) : PE X (.Name x pos) (tC (.int i)) := by
  obtain ⟨t, e⟩ := hm
  exact pe_glob hg e ⟨t, rfl⟩ hd

/-! ### a text times a number -/
def repS (z : Str) (n : Nat) : Str := ⟨((List.replicate n z.cps.toList).flatten).toArray⟩
theorem foldl_app : ∀ (l : List (Array Nat)) (a : Array Nat), (l.foldl (· ++ ·) a).toList = a.toList ++ (l.map Array.toList).flatten
  | [], a => by simp
  | x :: r, a => by
    rw [List.foldl_cons, foldl_app r (a ++ x)]
    simp
theorem op_mulS {X : Cx} : OpR X (binaryOp .Mult) (fun x y H Q => ∃ (z : Str) (n : Nat), x = .str z ∧ y = .int n ∧ n ≤ 1000 ∧ z.length ≤ 1000 ∧ Q (.str (repS z n)) H) := by
  intro pins s σ H x y v u Q I rx ry h
  obtain ⟨z, n, rfl, rfl, n1, z1, q⟩ := h
  obtain ⟨t, rfl⟩ := rx
  obtain ⟨t', rfl⟩ := ry
  have fin : ∀ (g : Str) (u : Tok) (k : Nat), g = repS z n → EP X pins σ Q (.str g u) { s with toks := k } := by
    rintro g u k rfl
    exact ⟨.str (repS z n), H, I.tok _, ⟨u, rfl⟩, q⟩
  have big : (z.length : Int) ≤ 1000 := by omega
  have lenz : z.length = z.cps.toList.length := by simp [Str.length]
  apply PySem.P.mul_str
  · have h1 : ¬ ((n : Int) < -(2 ^ 63 : Int)) := by omega
    have h2 : ¬ ((n : Int) ≥ 2 ^ 63) := by omega
    rw [decide_eq_false h1, decide_eq_false h2]
    rfl
  · intro n0 _
    have pos : (0 : Int) < n := by omega
    have : (1000 : Int) ≤ (2 ^ 63 - 1) / n := (Int.le_ediv_iff_mul_le pos).mpr (by have : (n : Int) ≤ 1000 := by omega
                                                                                   omega)
    omega
  · intro n0 _
    have h2 : z.length * n ≤ 1000 * 1000 := Nat.mul_le_mul z1 n1
    have hl : sizeLine = 16777216 := sizeLine_eq
    show decide (z.length * ((n : Int)).toNat > sizeLine) = false
    rw [Int.toNat_natCast, hl]
    exact decide_eq_false (by omega)
  · by_cases h0 : (n : Int) < 1
    · rw [if_pos h0]
      have e : n = 0 := by omega
      subst e
      exact ⟨by decide, fin _ _ _ (Str.ext' (by simp [repS, Str.empty]))⟩
    · rw [if_neg h0]
      by_cases h1 : ((n : Int) == 1 || z.length == 0) = true
      · rw [if_pos h1]
        rcases Bool.or_eq_true_iff.mp h1 with e | e
        · have e1 : n = 1 := by have := eq_of_beq e; omega
          subst e1
          refine fin z t s.toks (Str.ext' ?_)
          simp [repS]
        · have e1 : z.cps.toList = [] := List.eq_nil_of_length_eq_zero (by rw [← lenz]; exact eq_of_beq e)
          refine fin z t s.toks (Str.ext' ?_)
          apply Array.toList_inj.mp
          rw [e1]
          simp [repS, e1]
      · rw [if_neg h1]
        have eq : (⟨(List.replicate ((n : Int)).toNat z.cps).foldl (· ++ ·) #[]⟩ : Str) = repS z n := by
          apply Str.ext'
          apply Array.toList_inj.mp
          rw [foldl_app, Int.toNat_natCast]
          simp [repS]
        rw [eq]
        refine ⟨?_, fin _ _ _ rfl⟩
        have hl : sizeLine = 16777216 := sizeLine_eq
        have : (repS z n).length = n * z.length := by simp [repS, Str.length]
        rw [this, hl]
        have h2 : n * z.length ≤ 1000 * 1000 := Nat.mul_le_mul n1 z1
        omega
end Pg
namespace Pg
open PySem PySem.Spec PyProof.Rows L2
/-- within a comprehension: the written part is the def's own -/
theorem ix_listK {X : Cx} {K : PySem.W.Frag} (h : X.K = K) : IxR X (rIxL K) := h ▸ ix_list
theorem ix_tupK {X : Cx} {K : PySem.W.Frag} (h : X.K = K) : IxR X (rIxT K) := h ▸ ix_tup
end Pg

/-! A walk over the items of a written dict of the module. -/
namespace Pg
open PySem PySem.Spec PyProof.Rows L2

/-- the entries of a written dict, as values -/
def Entries (es : Array DictEntry) (kvs : List (V × V)) : Prop := kvs.length = es.size ∧ ∀ (i : Nat) (hi : i < es.size), ∃ k v, kvs[i]? = some (k, v) ∧ RelV k es[i].key ∧ RelV v es[i].val
theorem entries3 {e0 e1 e2 : DictEntry} {k0 v0 k1 v1 k2 v2 : V} (a0 : RelV k0 e0.key) (b0 : RelV v0 e0.val) (a1 : RelV k1 e1.key) (b1 : RelV v1 e1.val) (a2 : RelV k2 e2.key) (b2 : RelV v2 e2.val) :
    Entries #[e0, e1, e2] [(k0, v0), (k1, v1), (k2, v2)] :=
  ⟨rfl, fun i hi => match i, hi with
    | 0, _ => ⟨_, _, rfl, a0, b0⟩
    | 1, _ => ⟨_, _, rfl, a1, b1⟩
    | 2, _ => ⟨_, _, rfl, a2, b2⟩
    | n + 3, hi => absurd hi (by show ¬ (n + 3 < 3); omega)⟩
/-- its items, each a new tuple -/
def ItW (kvs : List (V × V)) : It :=
  ⟨fun i _ => i < kvs.length, fun i H x H' => ∃ T k v, kvs[i]? = some (k, v) ∧ x = .ref T ∧ H T = none ∧ H' = upd H T (.tup [k, v]), fun i _ => kvs.length ≤ i⟩
theorem raw_of {K : PySem.W.Frag} {h : Heap} {d : Addr} {es : Array DictEntry} {n : Nat} (inK : K.In h) (e : K.lookup d = some ⟨.type "dict", none, .dict es n, #[]⟩) : h.DictRaw d es n :=
  ⟨_, inK _ _ e, ⟨rfl, rfl, rfl⟩, rfl⟩
theorem turn_itemsW {P : Program} {w : World} {K : PySem.W.Frag} {d : Addr} {es : Array DictEntry} {n : Nat} {kvs : List (V × V)} {elts : List Expr} {kk : Nat} {tpos : Pos} (it : Addr)
    (at_d : K.lookup d = some ⟨.type "dict", none, .dict es n, #[]⟩) (en : Entries es kvs) : Turn P w K (.Tuple elts kk tpos) (ItW kvs) [it] it (fun i h => ∃ ok ov, IsItemIter h it d i es.size n ok ov) := by
  constructor
  case mem => simp
  case obj =>
    rintro i h ⟨ok, ov, e⟩ b hb
    obtain rfl : b = it := by simpa using hb
    exact ⟨_, e, fun v z => nomatch z⟩
  case keep =>
    rintro i h h' ⟨ok, ov, e⟩ k
    exact ⟨ok, ov, k it (by simp) _ e⟩
  case item =>
    intro X hP hw hK hc i pins s σ H E I hf st hg
    subst hP hw hK
    obtain ⟨ok, ov, he⟩ := st
    have lt : it < s.heap.objs.size := Heap.lt_size he
    have hi : i < es.size := by rw [← en.1]; exact hg
    obtain ⟨k, v, hkv, rk, rv⟩ := en.2 i hi
    apply wpAny_pyNext_items_item_raw he (raw_of I.kIn at_d) hi
    intro h' out here size kp
    refine ⟨_, rfl, ?_⟩
    apply wpAny_letOwnedTupleGo_items (s := { s with heap := h' }) out
    intro h2 back but
    have here2 : h2.get? s.heap.objs.size = some { cls := .type "tuple", data := .seq #[es[i].key, es[i].val] } := (but.2 _ (Nat.ne_of_gt lt)).trans here
    have fresh : H s.heap.objs.size = none := I.hok.fresh (Nat.le_refl _)
    have new : ObjOk X.prog X.w (upd H s.heap.objs.size (.tup [k, v])) h2 s.heap.objs.size (.tup [k, v]) :=
      ⟨by show 2 ≤ sizeLine; decide, [es[i].key, es[i].val], .cons rk (.cons rv .nil), ⟨_, here2, rfl, _, rfl⟩⟩
    have J := I.turnedNew (t' := s.toks) (h' := h2) (ch := [it]) (fun b o hb e => (but.2 b (by simpa using hb)).trans (kp b o (by simpa using hb) e)) hf (Nat.le_refl _) new
    refine ⟨.ref s.heap.objs.size, _, J, rfl, ⟨_, k, v, hkv, rfl, fresh, rfl⟩, ⟨_, _, back⟩, ?_⟩
    intro b hb
    obtain rfl : b = it := by simpa using hb
    rw [upd_ne (Nat.ne_of_lt lt)]
    exact (hf b (by simp)).1
  case done =>
    intro X hP hw hK hc i pins s σ H E I hf st hg
    subst hP hw hK
    obtain ⟨ok, ov, he⟩ := st
    obtain ⟨f0, f1, f2, f3, f4, f5⟩ := hf it (by simp)
    apply wpAny_pyNext_items_end_raw (I.ok.hd hc) he (raw_of I.kIn at_d) (by rw [← en.1]; exact hg)
    intro h' eb
    exact ⟨rfl, I.turned (t' := s.toks) (fun b o hb e => eb b o hb e) f0 f1 f3 f4 f5⟩
  case self =>
    rintro A i s Q E ⟨_, _, e⟩ h
    exact PySem.W.kcp_self e h
/-- for .. in d.items(), d a written dict of the module -/
def iItemsW (K : PySem.W.Frag) (td : TE) : TI := fun σ H R => td σ H fun x H1 => ∃ d es n kvs, x = .ref d ∧ K.lookup d = some ⟨.type "dict", none, .dict es n, #[]⟩ ∧ Entries es kvs ∧ (d == sysModules) = false ∧ R (ItW kvs) H1
theorem pi_itemsW {X : Cx} {e : Expr} {td : TE} {apos cpos : Pos} {elts : List Expr} {kk : Nat} {tpos : Pos} (he : PE X e td) (hbase : attributeBase e "items" X.env (eval e X.env) = eval e X.env := by rfl)
    (hline : (apos.endLine == cpos.line) = true := by rfl) : PI X (.Tuple elts kk tpos) (.Call (.Attribute e "items" apos) [] [] cpos) (iItemsW X.K td) := by
  constructor
  intro pins s σ H R I h
  apply wpAny_Call_method (T := "dict") (id := "dict.items") hbase rfl hline F.plainAttrs_dict F.slot_dict_items F.type_dict_items
  apply thn (he.run pins s σ H _ I h)
  rintro u s1 ⟨x, H1, I1, rx, d, es, n, kvs, rfl, at_d, en, low, q⟩
  obtain rfl : u = Value.ref d := rx
  have raw := raw_of I1.kIn at_d
  refine ⟨raw.typeIs, fun a z => ?_, ?_⟩
  · cases z
    exact ⟨_, I1.kIn _ _ at_d, rfl⟩
  have I2 : Inv X pins σ H1 { s1 with heap := s1.heap.push { cls := .type "dict_items", data := .fields #[.ref d] } } := I1.kept (t' := s1.toks) fun b o z => Heap.get?_push_of_some _ z
  have fin : wpAny (model X.prog X.w) X.A (pyIter (.ref s1.heap.objs.size)) (PIE X pins σ (.Tuple elts kk tpos) R) X.xe { s1 with heap := s1.heap.push { cls := .type "dict_items", data := .fields #[.ref d] } } :=
    wpAny_pyIter_items_raw (d := d) ⟨_, Heap.get?_push_size _ rfl, rfl, rfl⟩ (raw_of I2.kIn at_d)
      (pi_one (tk := s1.toks) I2 _ (turn_itemsW _ at_d en) ⟨.none, .none, Heap.get?_push_size _ rfl⟩ q)
  show wpAny _ _ (callWith cpos (.builtin "dict.items") [.ref d] [] []) _ X.xe s1
  exact method_meetsIn F.slot_dict_items F.entry_dict_items rfl (PySem.evalArgs_none ⟨rfl, raw.typeIs, F.args_dict_items_1 _, _, meets_dict_items_raw d low, ⟨_, _, raw⟩, fin⟩)
theorem for_itemsW {kvs : List (V × V)} {g : TG} {tb : TS} {D : Ends} {σ : L2.St} {H : Hp} (Pv : Nat → L2.St → Hp → Prop) (h0 : Pv 0 σ H)
    (hs : ∀ i k v σ H T, kvs[i]? = some (k, v) → Pv i σ H → H T = none → g (.ref T) σ (upd H T (.tup [k, v])) fun σ2 H2 => tb { D with nx := Pv (i + 1), ct := Pv (i + 1), bk := D.nx } σ2 H2) (hd : ∀ σ H, Pv kvs.length σ H → D.nx σ H) :
    ∃ W : Nat → Nat → L2.St → Hp → Prop, (∃ m, W 0 m σ H) ∧ ∀ i m σ H, W i m σ H →
      ((ItW kvs).stop i H ∧ D.nx σ H) ∨ ((ItW kvs).go i H ∧ ∃ N : L2.St → Hp → Prop, (∀ σ' H', N σ' H' → ∃ m', m' < m ∧ W (i + 1) m' σ' H') ∧ ∀ x H', (ItW kvs).yld i H x H' → g x σ H' fun σ2 H2 => tb { D with nx := N, ct := N, bk := D.nx } σ2 H2) := by
  refine ⟨fun i m σ H => i + m = kvs.length ∧ Pv i σ H, ⟨kvs.length, by omega, h0⟩, ?_⟩
  rintro i m σ H ⟨e, p⟩
  by_cases lt : i < kvs.length
  · refine Or.inr ⟨lt, Pv (i + 1), fun σ' H' q => ⟨m - 1, by omega, by omega, q⟩, ?_⟩
    rintro x H' ⟨T, k, v, hkv, rfl, nT, rfl⟩
    exact hs i k v σ H T hkv p nT
  · obtain rfl : i = kvs.length := by omega
    exact Or.inl ⟨Nat.le_refl _, hd σ H p⟩
end Pg

/-! Segments of a text: the mathematics. -/
namespace Pg
open PySem PySem.Spec PyProof.Rows L2

abbrev cd (z : Str) : List Nat := z.cps.toList
theorem cd_len (z : Str) : z.length = (cd z).length := by simp [Str.length]
theorem cd_inj {x y : Str} (h : cd x = cd y) : x = y := Str.ext' (Array.toList_inj.mp h)
theorem cd_app (x y : Str) : cd (x ++ y) = cd x ++ cd y := by
  show (x.cps ++ y.cps).toList = _
  rw [Array.toList_append]
/-- the signs from a to b -/
def sub (t : Str) (a b : Nat) : Str := ⟨(((cd t).drop a).take (b - a)).toArray⟩
theorem cd_sub (t : Str) (a b : Nat) : cd (sub t a b) = ((cd t).drop a).take (b - a) := rfl
theorem cut_sub (t : Str) (a b : Nat) : cutS t (some (a : Int)) (some (b : Int)) = sub t a b := by
  apply cd_inj
  unfold cutS
  rw [show HT.sIx t.length 0 (some (a : Int)) = min a t.length from HT.sIx_nat t.length 0 a, show HT.sIx t.length t.length (some (b : Int)) = min b t.length from HT.sIx_nat t.length t.length b, cd_len]
  show List.take (min b (cd t).length - min a (cd t).length) (List.drop (min a (cd t).length) (cd t)) = List.take (b - a) (List.drop a (cd t))
  by_cases h : a ≤ (cd t).length
  · rw [Nat.min_eq_left h, List.take_eq_take_iff, List.length_drop]
    omega
  · have h1 : (cd t).length ≤ a := by omega
    rw [Nat.min_eq_right h1, List.drop_of_length_le h1, List.drop_of_length_le (Nat.le_refl _), List.take_nil, List.take_nil]
theorem cut_from (t : Str) (a : Nat) : cutS t (some (a : Int)) none = sub t a t.length := by
  apply cd_inj
  unfold cutS
  rw [show HT.sIx t.length 0 (some (a : Int)) = min a t.length from HT.sIx_nat t.length 0 a, HT.sIx_none, cd_len]
  show List.take ((cd t).length - min a (cd t).length) (List.drop (min a (cd t).length) (cd t)) = List.take (t.length - a) (List.drop a (cd t))
  rw [cd_len]
  by_cases h : a ≤ (cd t).length
  · rw [Nat.min_eq_left h]
  · have h1 : (cd t).length ≤ a := by omega
    rw [Nat.min_eq_right h1, List.drop_of_length_le h1, List.drop_of_length_le (Nat.le_refl _), List.take_nil, List.take_nil]
theorem sub_len {t : Str} {a b : Nat} (h : b ≤ t.length) : (sub t a b).length = b - a := by
  rw [cd_len, cd_sub, List.length_take, List.length_drop, ← cd_len]
  omega
theorem sub_self (t : Str) (a : Nat) : sub t a a = ⟨#[]⟩ := by
  apply cd_inj
  rw [cd_sub, Nat.sub_self, List.take_zero]
theorem sub_full (t : Str) : sub t 0 t.length = t := by
  apply cd_inj
  rw [cd_sub, List.drop_zero, Nat.sub_zero, cd_len, List.take_length]
theorem sub_join {t : Str} {a b c : Nat} (h1 : a ≤ b) (h2 : b ≤ c) : sub t a b ++ sub t b c = sub t a c := by
  apply cd_inj
  rw [cd_app, cd_sub, cd_sub, cd_sub]
  have e : (cd t).drop b = ((cd t).drop a).drop (b - a) := by rw [List.drop_drop]; congr 1; omega
  rw [e]
  have e2 : c - a = (b - a) + (c - b) := by omega
  rw [e2, List.take_add]
theorem sub_one {t : Str} {a c : Nat} (h : (cd t)[a]? = some c) : sub t a (a + 1) = ⟨#[c]⟩ := by
  apply cd_inj
  rw [cd_sub]
  obtain ⟨lt, e⟩ := List.getElem?_eq_some_iff.mp h
  have e1 : a + 1 - a = 1 := by omega
  rw [e1, List.drop_eq_getElem_cons lt, e]
  rfl
/-- one sign there -/
theorem sub_is1 (t : Str) (a c : Nat) : sub t a (a + 1) = ⟨#[c]⟩ ↔ (cd t)[a]? = some c := by
  constructor
  · intro h
    have h2 := congrArg cd h
    rw [cd_sub, show a + 1 - a = 1 by omega] at h2
    cases e : (cd t)[a]? with
    | none =>
      rw [List.drop_of_length_le (List.getElem?_eq_none_iff.mp e)] at h2
      cases h2
    | some d =>
      obtain ⟨lt, e1⟩ := List.getElem?_eq_some_iff.mp e
      rw [List.drop_eq_getElem_cons lt, e1] at h2
      have h3 : [d] = [c] := h2
      rw [List.cons.inj h3 |>.1]
  · exact sub_one
theorem sub_is2 (t : Str) (a c d : Nat) : sub t a (a + 2) = ⟨#[c, d]⟩ ↔ (cd t)[a]? = some c ∧ (cd t)[a + 1]? = some d := by
  have j : sub t a (a + 1) ++ sub t (a + 1) (a + 2) = sub t a (a + 2) := sub_join (by omega) (by omega)
  constructor
  · intro h
    have h2 := congrArg cd h
    rw [cd_sub, show a + 2 - a = 2 by omega] at h2
    have h0 : ((cd t).drop a)[0]? = some c := by
      have : (List.take 2 ((cd t).drop a))[0]? = some c := by rw [h2]; rfl
      rw [List.getElem?_take_of_lt (by omega)] at this
      exact this
    have h1 : ((cd t).drop a)[1]? = some d := by
      have : (List.take 2 ((cd t).drop a))[1]? = some d := by rw [h2]; rfl
      rw [List.getElem?_take_of_lt (by omega)] at this
      exact this
    rw [List.getElem?_drop] at h0 h1
    exact ⟨h0, h1⟩
  · rintro ⟨h0, h1⟩
    rw [← j, sub_one h0, sub_one h1]
    rfl

/-- the first c from i on -/
def closeAt (t : Str) (c i : Nat) : Option Nat := if i + ((cd t).drop i).findIdx (· == c) < (cd t).length then some (i + ((cd t).drop i).findIdx (· == c)) else none
theorem close_some {t : Str} {c i k : Nat} (h1 : i ≤ k) (h2 : (cd t)[k]? = some c) (h3 : ∀ v, i ≤ v → v < k → (cd t)[v]? ≠ some c) : closeAt t c i = some k := by
  have hk : ((cd t).drop i)[k - i]? = some c := by rw [List.getElem?_drop]; rw [show i + (k - i) = k by omega]; exact h2
  obtain ⟨lt, e⟩ := List.getElem?_eq_some_iff.mp hk
  have lt2 : k < (cd t).length := (List.getElem?_eq_some_iff.mp h2).1
  have : ((cd t).drop i).findIdx (· == c) = k - i := by
    rw [List.findIdx_eq lt]
    refine ⟨by rw [e]; exact beq_self_eq_true c, fun j hj => ?_⟩
    have hjl : j < ((cd t).drop i).length := by omega
    rw [beq_eq_false_iff_ne]
    intro e2
    apply h3 (i + j) (by omega) (by omega)
    have h4 : ((cd t).drop i)[j]? = some c := by rw [List.getElem?_eq_getElem hjl, e2]
    rw [List.getElem?_drop] at h4
    exact h4
  unfold closeAt
  rw [this, if_pos (by omega)]
  congr 1
  omega
theorem close_is {t : Str} {c i k : Nat} (h : closeAt t c i = some k) : i ≤ k ∧ k < t.length ∧ (cd t)[k]? = some c ∧ ∀ v, i ≤ v → v < k → (cd t)[v]? ≠ some c := by
  unfold closeAt at h
  by_cases lt : i + ((cd t).drop i).findIdx (· == c) < (cd t).length
  · rw [if_pos lt] at h
    have hk2 : i + ((cd t).drop i).findIdx (· == c) = k := Option.some.inj h
    have lt3 : ((cd t).drop i).findIdx (· == c) < ((cd t).drop i).length := by rw [List.length_drop]; omega
    have e := List.findIdx_getElem (w := lt3)
    have at_k : ((cd t).drop i)[((cd t).drop i).findIdx (· == c)]? = some c := by rw [List.getElem?_eq_getElem lt3, eq_of_beq e]
    rw [List.getElem?_drop, hk2] at at_k
    refine ⟨by omega, by rw [cd_len]; omega, at_k, fun v hv1 hv2 hv3 => ?_⟩
    have hlt : v - i < ((cd t).drop i).findIdx (· == c) := by omega
    have := List.not_of_lt_findIdx hlt
    have h4 : ((cd t).drop i)[v - i]? = some c := by rw [List.getElem?_drop]; rw [show i + (v - i) = v by omega]; exact hv3
    obtain ⟨lt4, e4⟩ := List.getElem?_eq_some_iff.mp h4
    rw [e4] at this
    simp at this
  · rw [if_neg lt] at h
    cases h
theorem close_none {t : Str} {c i : Nat} (h : ∀ v, i ≤ v → (cd t)[v]? ≠ some c) : closeAt t c i = none := by
  cases e : closeAt t c i with
  | none => rfl
  | some k =>
    obtain ⟨h1, _, h2, _⟩ := close_is e
    exact absurd h2 (h k h1)
theorem close_free {t : Str} {c i : Nat} (h : closeAt t c i = none) : ∀ v, i ≤ v → (cd t)[v]? ≠ some c := by
  intro v h1 h2
  have fd : ∀ m k, k - i = m → i ≤ k → (cd t)[k]? = some c → False := by
    intro m
    induction m using Nat.strongRecOn with
    | _ m ih =>
      intro k hm hk1 hk2
      by_cases ex : ∀ v, i ≤ v → v < k → (cd t)[v]? ≠ some c
      · rw [close_some hk1 hk2 ex] at h
        cases h
      · have ⟨v, hv⟩ : ∃ v, ¬ (i ≤ v → v < k → (cd t)[v]? ≠ some c) := Classical.not_forall.mp ex
        have h1' : i ≤ v := Classical.byContradiction fun z => hv fun a => absurd a z
        have h2' : v < k := Classical.byContradiction fun z => hv fun _ b => absurd b z
        have h3' : (cd t)[v]? = some c := Classical.byContradiction fun z => hv fun _ _ => z
        exact ih (v - i) (by omega) v rfl h1' h3'
  exact fd _ v rfl h1 h2
/-- the sign at the start is another: one may begin behind it -/
theorem close_step {t : Str} {c i d : Nat} (h : (cd t)[i]? = some d) (ne : d ≠ c) : closeAt t c i = closeAt t c (i + 1) := by
  have skip : ∀ v, i ≤ v → (cd t)[v]? = some c → i + 1 ≤ v := fun v h1 h2 => by
    by_cases e : v = i
    · rw [e, h] at h2
      exact absurd (Option.some.inj h2) ne
    · omega
  cases e : closeAt t c (i + 1) with
  | none => exact close_none fun v h1 h2 => close_free e v (skip v h1 h2) h2
  | some k =>
    obtain ⟨h1, _, h2, h3⟩ := close_is e
    exact close_some (by omega) h2 fun v v1 v2 v3 => h3 v (skip v v1 v3) v2 v3
/-- str.find of one sign -/
theorem find_close (t : Str) (c i : Nat) : Txt.find3 t ⟨#[c]⟩ (i : Int) = match closeAt t c i with | some k => (k : Int) | none => -1 := by
  have fi : PySem.fromIndex t.length (i : Int) = i := by
    unfold PySem.fromIndex
    rw [if_neg (by omega)]
    omega
  have gd : ∀ v, v < t.length → ((cd t)[v]? = some c ↔ t.cps.getD v 0 = c) := by
    intro v hv
    constructor
    · intro h
      exact StrLaws.getD_of_getElem? h
    · intro h
      exact StrLaws.getElem?_of_getD hv h
  have big : ∀ v, (cd t)[v]? = some c → v < t.length := fun v h => by rw [cd_len]; exact (List.getElem?_eq_some_iff.mp h).1
  rcases StrLaws.find3_spec t c (i : Int) with ⟨h0, hn⟩ | ⟨k, h0, h1, h2, h3, h4⟩
  · rw [fi] at hn
    rw [close_none fun v hv hs => hn v hv (big v hs) ((gd v (big v hs)).mp hs), h0]
  · rw [fi] at h1 h4
    rw [close_some h1 ((gd k h2).mpr h3) fun v hv1 hv2 hs => h4 v hv1 hv2 ((gd v (big v hs)).mp hs), h0]
end Pg

/-! What splits a text. -/
namespace Pg
open PySem PySem.Spec PyProof.Rows L2
abbrev Seg := Str × Str
/-- the segment that is no text and begins at i: its kind, its name, the place behind it -/
def brk (N A : Str → Bool) (t : Str) (i : Nat) : Option (Str × Str × Nat) :=
  if (cd t)[i]? = some 91 then
    match closeAt t 93 (i + 1) with
    | some e => if N (sub t (i + 1) e) = true then some ("link", sub t (i + 1) e, e + 1) else none
    | none => none
  else if (cd t)[i]? = some 60 then
    match closeAt t 62 (i + 1) with
    | some e =>
      if (cd t)[i + 1]? = some 64 then (if (N (sub t (i + 2) e) && A (sub t (i + 2) e)) = true then some ("indirect", sub t (i + 2) e, e + 1) else none)
      else (if (N (sub t (i + 1) e) && A (sub t (i + 1) e)) = true then some ("include", sub t (i + 1) e, e + 1) else none)
    | none => none
  else none
/-- a segment's own text -/
def textOf (s : Seg) : Str := if s.1 = "text" then s.2 else if s.1 = "include" then "<" ++ s.2 ++ ">" else if s.1 = "indirect" then "<@" ++ s.2 ++ ">" else "[" ++ s.2 ++ "]"
theorem text_link (z : Str) : textOf ("link", z) = "[" ++ z ++ "]" := by
  unfold textOf
  rw [if_neg (show ¬ (("link" : Str) = "text") by decide +kernel), if_neg (show ¬ (("link" : Str) = "include") by decide +kernel), if_neg (show ¬ (("link" : Str) = "indirect") by decide +kernel)]
theorem text_ind (z : Str) : textOf ("indirect", z) = "<@" ++ z ++ ">" := by
  unfold textOf
  rw [if_neg (show ¬ (("indirect" : Str) = "text") by decide +kernel), if_neg (show ¬ (("indirect" : Str) = "include") by decide +kernel), if_pos rfl]
theorem text_inc (z : Str) : textOf ("include", z) = "<" ++ z ++ ">" := by
  unfold textOf
  rw [if_neg (show ¬ (("include" : Str) = "text") by decide +kernel), if_pos rfl]
theorem s60 : ("<" : Str) = ⟨#[60]⟩ := by decide +kernel
theorem s62 : (">" : Str) = ⟨#[62]⟩ := by decide +kernel
theorem s91 : ("[" : Str) = ⟨#[91]⟩ := by decide +kernel
theorem s93 : ("]" : Str) = ⟨#[93]⟩ := by decide +kernel
theorem s6064 : ("<@" : Str) = ⟨#[60, 64]⟩ := by decide +kernel
theorem s0 : ("" : Str) = ⟨#[]⟩ := by decide +kernel
theorem wrap1 {t : Str} {i e : Nat} {b c : Nat} (h1 : i + 1 ≤ e) (hb : (cd t)[i]? = some b) (hc : (cd t)[e]? = some c) : (⟨#[b]⟩ : Str) ++ sub t (i + 1) e ++ ⟨#[c]⟩ = sub t i (e + 1) := by
  rw [← sub_one hb, ← sub_one hc, sub_join (by omega) h1, sub_join (by omega) (by omega)]
theorem wrap2 {t : Str} {i e : Nat} {b d c : Nat} (h1 : i + 2 ≤ e) (hb : (cd t)[i]? = some b) (hd : (cd t)[i + 1]? = some d) (hc : (cd t)[e]? = some c) : (⟨#[b, d]⟩ : Str) ++ sub t (i + 2) e ++ ⟨#[c]⟩ = sub t i (e + 1) := by
  rw [← (sub_is2 t i b d).mpr ⟨hb, hd⟩, ← sub_one hc, sub_join (by omega) h1, sub_join (by omega) (by omega)]
def kinds : List Str := ["include", "indirect", "link"]
theorem kinds_no : ∀ k ∈ kinds, k ≠ "text" := by decide +kernel
theorem brk_is {N A : Str → Bool} {t k z : Str} {i e : Nat} (h : brk N A t i = some (k, z, e)) : i < e ∧ e ≤ t.length ∧ textOf (k, z) = sub t i e ∧ k ∈ kinds ∧ z.length ≤ t.length := by
  unfold brk at h
  by_cases h1 : (cd t)[i]? = some 91
  · rw [if_pos h1] at h
    split at h
    · rename_i e0 he
      obtain ⟨c1, c2, c3, _⟩ := close_is he
      split at h
      · cases h
        refine ⟨by omega, by omega, ?_, by decide +kernel, by rw [sub_len (by omega)]; omega⟩
        rw [← wrap1 c1 h1 c3, ← s91, ← s93, text_link]
      · cases h
    · cases h
  · rw [if_neg h1] at h
    by_cases h2 : (cd t)[i]? = some 60
    · rw [if_pos h2] at h
      split at h
      · rename_i e0 he
        obtain ⟨c1, c2, c3, c4⟩ := close_is he
        by_cases h3 : (cd t)[i + 1]? = some 64
        · rw [if_pos h3] at h
          split at h
          · cases h
            have c1' : i + 2 ≤ e0 := by
              by_cases e : e0 = i + 1
              · subst e
                rw [h3] at c3
                cases c3
              · omega
            refine ⟨by omega, by omega, ?_, by decide +kernel, by rw [sub_len (by omega)]; omega⟩
            rw [← wrap2 c1' h2 h3 c3, ← s6064, ← s62, text_ind]
          · cases h
        · rw [if_neg h3] at h
          split at h
          · cases h
            refine ⟨by omega, by omega, ?_, by decide +kernel, by rw [sub_len (by omega)]; omega⟩
            rw [← wrap1 c1 h2 c3, ← s60, ← s62, text_inc]
          · cases h
      · cases h
    · rw [if_neg h2] at h
      cases h
/-- plain signs as a segment, or none -/
def plain (z : Str) : List Seg := if z = ⟨#[]⟩ then [] else [("text", z)]
/-- the segments, when all before `done` is told and i is reached -/
def segs (N A : Str → Bool) (t : Str) (done i : Nat) : List Seg :=
  if i < t.length then
    match brk N A t i with
    | none => segs N A t done (i + 1)
    | some (k, z, e) => if i < e then plain (sub t done i) ++ ((k, z) :: segs N A t e e) else []
  else plain (sub t done t.length)
termination_by t.length - i
theorem segs_end {N A : Str → Bool} {t : Str} {done i : Nat} (h : ¬ i < t.length) : segs N A t done i = plain (sub t done t.length) := by
  rw [segs, if_neg h]
theorem segs_none {N A : Str → Bool} {t : Str} {done i : Nat} (h : i < t.length) (b : brk N A t i = none) : segs N A t done i = segs N A t done (i + 1) := by
  rw [segs, if_pos h, b]
theorem segs_some {N A : Str → Bool} {t k z : Str} {done i e : Nat} (h : i < t.length) (b : brk N A t i = some (k, z, e)) : segs N A t done i = plain (sub t done i) ++ ((k, z) :: segs N A t e e) := by
  rw [segs, if_pos h, b]
  simp only
  rw [if_pos (brk_is b).1]
/-- texts one behind another -/
def glue : List Str → Str
  | [] => ⟨#[]⟩
  | x :: r => x ++ glue r
theorem glue_app : ∀ a b : List Str, glue (a ++ b) = glue a ++ glue b
  | [], b => by
    apply cd_inj
    rw [cd_app]
    rfl
  | x :: a, b => by
    show x ++ glue (a ++ b) = x ++ glue a ++ glue b
    rw [glue_app a b]
    apply cd_inj
    simp only [cd_app, List.append_assoc]
theorem glue_plain (z : Str) : glue ((plain z).map textOf) = z := by
  unfold plain
  split
  · rename_i e
    rw [e]
    rfl
  · apply cd_inj
    show cd (textOf ("text", z) ++ ⟨#[]⟩) = _
    rw [cd_app]
    unfold textOf
    rw [if_pos rfl]
    simp
theorem glue_segs (N A : Str → Bool) (t : Str) : ∀ (m done i : Nat), t.length - i = m → done ≤ i → i ≤ t.length → glue ((segs N A t done i).map textOf) = sub t done t.length := by
  intro m
  induction m using Nat.strongRecOn with
  | _ m ih =>
    intro done i hm h1 h2
    by_cases lt : i < t.length
    · cases b : brk N A t i with
      | none =>
        rw [segs_none lt b]
        exact ih (t.length - (i + 1)) (by omega) done (i + 1) rfl (by omega) (by omega)
      | some r =>
        obtain ⟨k, z, e⟩ := r
        obtain ⟨b1, b2, b3, _⟩ := brk_is b
        rw [segs_some lt b, List.map_append, glue_app, glue_plain, List.map_cons]
        show sub t done i ++ (textOf (k, z) ++ glue ((segs N A t e e).map textOf)) = _
        rw [ih (t.length - e) (by omega) e e rfl (Nat.le_refl _) b2, b3, sub_join (by omega) b2, sub_join h1 (by omega)]
    · rw [segs_end lt, glue_plain]
theorem glue_all (N A : Str → Bool) (t : Str) : glue ((segs N A t 0 0).map textOf) = t := by
  rw [glue_segs N A t t.length 0 0 rfl (Nat.le_refl _) (Nat.zero_le _), sub_full]
def noText : Seg := (("text" : Str), (⟨#[]⟩ : Str))
/-- no empty text, no text beside another one -/
def okL : List Seg → Prop
  | [] => True
  | s :: r => s ≠ noText ∧ (∀ s', r.head? = some s' → ¬ (s.1 = "text" ∧ s'.1 = "text")) ∧ okL r
theorem okL_plain {z : Str} {r : List Seg} (h : okL r) (no : ∀ s, r.head? = some s → s.1 ≠ "text") : okL (plain z ++ r) := by
  unfold plain
  split
  · exact h
  · rename_i e
    exact ⟨fun q => e (Prod.mk.inj q).2, fun s' hs q => no s' hs q.2, h⟩
theorem okL_segs (N A : Str → Bool) (t : Str) : ∀ (m done i : Nat), t.length - i = m → i ≤ t.length → okL (segs N A t done i) := by
  intro m
  induction m using Nat.strongRecOn with
  | _ m ih =>
    intro done i hm h2
    by_cases lt : i < t.length
    · cases b : brk N A t i with
      | none =>
        rw [segs_none lt b]
        exact ih (t.length - (i + 1)) (by omega) done (i + 1) rfl (by omega)
      | some r =>
        obtain ⟨k, z, e⟩ := r
        obtain ⟨b1, b2, b3, b4, _⟩ := brk_is b
        have kn := kinds_no k b4
        rw [segs_some lt b]
        apply okL_plain
        · refine ⟨fun q => kn (Prod.mk.inj q).1, fun s' _ q => kn q.1, ih (t.length - e) (by omega) e e rfl b2⟩
        · intro s hs
          cases hs
          exact kn
    · rw [segs_end lt]
      have : plain (sub t done t.length) = plain (sub t done t.length) ++ [] := (List.append_nil _).symm
      rw [this]
      exact okL_plain trivial (fun s hs => by cases hs)
theorem okL_get : ∀ {l : List Seg} {i : Nat} {s : Seg}, okL l → l[i]? = some s → s ≠ noText ∧ ∀ j r, i = j + 1 → l[j]? = some r → ¬ (s.1 = "text" ∧ r.1 = "text")
  | [], _, _, _, h => by simp at h
  | x :: l, 0, s, ok, h => by
    obtain rfl : x = s := Option.some.inj h
    exact ⟨ok.1, fun j r e => by omega⟩
  | x :: l, i + 1, s, ok, h => by
    have h' : l[i]? = some s := by simpa using h
    obtain ⟨a, b⟩ := okL_get ok.2.2 h'
    refine ⟨a, fun j r e hr => ?_⟩
    obtain rfl : i = j := by omega
    cases i with
    | zero =>
      obtain rfl : x = r := by simpa using hr
      have hd : l.head? = some s := by rw [List.head?_eq_getElem?]; exact h'
      exact fun q => ok.2.1 s hd ⟨q.2, q.1⟩
    | succ i =>
      have hr' : l[i]? = some r := by simpa using hr
      exact b i r rfl hr'
theorem segs_few (N A : Str → Bool) (t : Str) : ∀ (m done i : Nat), t.length - i = m → i ≤ t.length → (segs N A t done i).length ≤ 2 * (t.length - i) + 1 := by
  intro m
  have pl : ∀ z : Str, (plain z).length ≤ 1 := fun z => by unfold plain; split <;> simp
  induction m using Nat.strongRecOn with
  | _ m ih =>
    intro done i hm h2
    by_cases lt : i < t.length
    · cases b : brk N A t i with
      | none =>
        rw [segs_none lt b]
        have := ih (t.length - (i + 1)) (by omega) done (i + 1) rfl (by omega)
        omega
      | some r =>
        obtain ⟨k, z, e⟩ := r
        obtain ⟨b1, b2, _⟩ := brk_is b
        rw [segs_some lt b, List.length_append, List.length_cons]
        have h1 := pl (sub t done i)
        have h2 := ih (t.length - e) (by omega) e e rfl b2
        omega
    · rw [segs_end lt]
      have := pl (sub t done t.length)
      omega
end Pg
namespace Pg
open PySem PySem.Spec PyProof.Rows L2
/-- one kind, tried at i -/
def tryK (N A : Str → Bool) (t : Str) (i : Nat) (k b : Str) (c : Nat) : Option (Str × Str × Nat) :=
  if sub t i (i + b.length) = b then
    match closeAt t c (i + b.length) with
    | some e => if (N (sub t (i + b.length) e) && (decide (k = "link") || A (sub t (i + b.length) e))) = true then some (k, sub t (i + b.length) e, e + 1) else none
    | none => none
  else none
theorem brk_try {N A : Str → Bool} {t : Str} {i : Nat} (hN : ∀ z, N z = true → 64 ∉ cd z) :
    brk N A t i = ((tryK N A t i "include" "<" 62).or ((tryK N A t i "indirect" "<@" 62).or (tryK N A t i "link" "[" 93))) := by
  have l1 : ("<" : Str).length = 1 := rfl
  have l2 : ("<@" : Str).length = 2 := rfl
  have l3 : ("[" : Str).length = 1 := rfl
  have k1 : decide (("include" : Str) = "link") = false := by decide +kernel
  have k2 : decide (("indirect" : Str) = "link") = false := by decide +kernel
  have k3 : decide (("link" : Str) = "link") = true := decide_eq_true rfl
  unfold brk tryK
  rw [l1, l2, l3, k1, k2, k3]
  simp only [s60, s6064, s91, sub_is1, sub_is2, Bool.false_or, Bool.true_or, Bool.and_true]
  by_cases h1 : (cd t)[i]? = some 91
  · have n60 : ¬ (cd t)[i]? = some 60 := by rw [h1]; simp
    rw [if_pos h1, if_neg n60, if_neg (fun z => n60 z.1), if_pos h1]
    rfl
  · rw [if_neg h1]
    by_cases h2 : (cd t)[i]? = some 60
    · rw [if_pos h2, if_pos h2, if_neg h1]
      by_cases h3 : (cd t)[i + 1]? = some 64
      · rw [if_pos ⟨h2, h3⟩]
        have cs : closeAt t 62 (i + 1) = closeAt t 62 (i + 2) := close_step h3 (by decide)
        rw [← cs]
        cases e : closeAt t 62 (i + 1) with
        | none => rfl
        | some k =>
          obtain ⟨c1, c2, c3, _⟩ := close_is e
          have no : N (sub t (i + 1) k) = false := by
            cases q : N (sub t (i + 1) k) with
            | false => rfl
            | true =>
              exfalso
              apply hN _ q
              have lt : i + 1 < k := by
                by_cases z : k = i + 1
                · subst z
                  rw [h3] at c3
                  cases c3
                · omega
              have : (cd (sub t (i + 1) k))[0]? = some 64 := by
                rw [cd_sub, List.getElem?_take_of_lt (by omega), List.getElem?_drop]
                exact h3
              exact List.mem_of_getElem? this
          simp only [h3, no, if_true, Bool.false_and, Bool.false_eq_true, if_false, Option.none_or, Option.or_none]
      · rw [if_neg (fun z => h3 z.2)]
        cases e : closeAt t 62 (i + 1) with
        | none => rfl
        | some k => simp only [h3, if_false, Option.or_none]
    · rw [if_neg h2, if_neg h2, if_neg (fun z => h2 z.1), if_neg h1]
      rfl
theorem segs_kinds (N A : Str → Bool) (t : Str) : ∀ (m done i : Nat), t.length - i = m → done ≤ i → i ≤ t.length → ∀ s ∈ segs N A t done i, (s.1 = "text" ∨ s.1 ∈ kinds) ∧ s.2.length ≤ t.length := by
  intro m
  have pl : ∀ a b : Nat, b ≤ t.length → ∀ s ∈ plain (sub t a b), (s.1 = "text" ∨ s.1 ∈ kinds) ∧ s.2.length ≤ t.length := by
    intro a b hb s hs
    unfold plain at hs
    split at hs
    · cases hs
    · rw [List.mem_singleton.mp hs]
      exact ⟨Or.inl rfl, by show (sub t a b).length ≤ _; rw [sub_len hb]; omega⟩
  induction m using Nat.strongRecOn with
  | _ m ih =>
    intro done i hm h1 h2 s hs
    by_cases lt : i < t.length
    · cases b : brk N A t i with
      | none =>
        rw [segs_none lt b] at hs
        exact ih (t.length - (i + 1)) (by omega) done (i + 1) rfl (by omega) (by omega) s hs
      | some r =>
        obtain ⟨k, z, e⟩ := r
        obtain ⟨b1, b2, _, b4, b5⟩ := brk_is b
        rw [segs_some lt b] at hs
        rcases List.mem_append.mp hs with h | h
        · exact pl done i h2 s h
        · rcases List.mem_cons.mp h with h | h
          · rw [h]
            exact ⟨Or.inr b4, b5⟩
          · exact ih (t.length - e) (by omega) e e rfl (Nat.le_refl _) b2 s h
    · rw [segs_end lt] at hs
      exact pl done t.length (Nat.le_refl _) s hs
end Pg
namespace Pg
open PySem PySem.Spec PyProof.Rows L2
/-- signs that there are -/
def Codes (z : Str) : Prop := ∀ c ∈ cd z, c < 1114112
theorem Codes.ok {z : Str} (h : Codes z) : PyData.strOk z = true := by
  unfold PyData.strOk
  rw [← Array.all_toList, List.all_eq_true]
  intro c hc
  exact decide_eq_true (h c hc)
theorem Codes.sub {t : Str} (h : Codes t) (a b : Nat) : Codes (sub t a b) := fun c hc => h c (List.mem_of_mem_drop (List.mem_of_mem_take hc))
theorem kinds_codes : ∀ k ∈ (("text" : Str) :: kinds), k.cps.toList.all (fun c => decide (c < 127)) = true ∧ k.length ≤ 8 := by decide +kernel
theorem kind_codes {k : Str} (h : k = "text" ∨ k ∈ kinds) : Codes k := fun c hc => by
  have m : k ∈ (("text" : Str) :: kinds) := by
    rcases h with h | h
    · rw [h]; exact List.mem_cons_self
    · exact List.mem_cons_of_mem _ h
  have := of_decide_eq_true (List.all_eq_true.mp (kinds_codes k m).1 c hc)
  omega
/-- a segment of a text: its kind, its signs -/
def Fine (t : Str) (s : Seg) : Prop := (s.1 = "text" ∨ s.1 ∈ kinds) ∧ s.2.length ≤ t.length ∧ ∀ c ∈ cd s.2, c ∈ cd t
theorem plain_fine {t : Str} {a b : Nat} (hb : b ≤ t.length) : ∀ s ∈ plain (sub t a b), Fine t s := by
  intro s hs
  unfold plain at hs
  split at hs
  · cases hs
  · rw [List.mem_singleton.mp hs]
    exact ⟨Or.inl rfl, by show (sub t a b).length ≤ _; rw [sub_len hb]; omega, fun c hc => List.mem_of_mem_drop (List.mem_of_mem_take hc)⟩
theorem brk_part {N A : Str → Bool} {t k z : Str} {i e : Nat} (h : brk N A t i = some (k, z, e)) : ∀ c ∈ cd z, c ∈ cd t := by
  have sb : ∀ a b, ∀ c ∈ cd (sub t a b), c ∈ cd t := fun a b c hc => List.mem_of_mem_drop (List.mem_of_mem_take hc)
  unfold brk at h
  repeat' split at h
  all_goals first
    | (cases h; done)
    | (cases h; exact sb _ _)
theorem segs_fine (N A : Str → Bool) (t : Str) : ∀ (m done i : Nat), t.length - i = m → done ≤ i → i ≤ t.length → ∀ s ∈ segs N A t done i, Fine t s := by
  intro m
  induction m using Nat.strongRecOn with
  | _ m ih =>
    intro done i hm h1 h2 s hs
    by_cases lt : i < t.length
    · cases b : brk N A t i with
      | none =>
        rw [segs_none lt b] at hs
        exact ih (t.length - (i + 1)) (by omega) done (i + 1) rfl (by omega) (by omega) s hs
      | some r =>
        obtain ⟨k, z, e⟩ := r
        obtain ⟨b1, b2, _, b4, b5⟩ := brk_is b
        rw [segs_some lt b] at hs
        rcases List.mem_append.mp hs with h | h
        · exact plain_fine h2 s h
        · rcases List.mem_cons.mp h with h | h
          · rw [h]
            exact ⟨Or.inr b4, b5, brk_part b⟩
          · exact ih (t.length - e) (by omega) e e rfl (Nat.le_refl _) b2 s h
    · rw [segs_end lt] at hs
      exact plain_fine (Nat.le_refl _) s hs
end Pg
namespace Pg
open PySem PySem.Spec PyProof.Rows L2
theorem brk_after {N A : Str → Bool} {t k z : Str} {i e : Nat} (h : brk N A t i = some (k, z, e)) : (k = "link" ∧ N z = true) ∨ ((k = "include" ∨ k = "indirect") ∧ N z = true ∧ A z = true) := by
  unfold brk at h
  repeat' split at h
  all_goals first
    | (cases h; done)
    | (rename_i q; cases h; exact .inl ⟨rfl, q⟩)
    | (rename_i q; cases h; obtain ⟨q1, q2⟩ := Bool.and_eq_true_iff.mp q; exact .inr ⟨.inl rfl, q1, q2⟩)
    | (rename_i q; cases h; obtain ⟨q1, q2⟩ := Bool.and_eq_true_iff.mp q; exact .inr ⟨.inr rfl, q1, q2⟩)
theorem plain_kind {z : Str} : ∀ s ∈ plain z, s.1 = "text" := by
  intro s hs
  unfold plain at hs
  split at hs
  · cases hs
  · rw [List.mem_singleton.mp hs]
theorem segs_after (N A : Str → Bool) (t : Str) : ∀ (m done i : Nat), t.length - i = m → i ≤ t.length → ∀ s ∈ segs N A t done i, s.1 = "text" ∨ (s.1 = "link" ∧ N s.2 = true) ∨ ((s.1 = "include" ∨ s.1 = "indirect") ∧ N s.2 = true ∧ A s.2 = true) := by
  intro m
  induction m using Nat.strongRecOn with
  | _ m ih =>
    intro done i hm h2 s hs
    by_cases lt : i < t.length
    · cases b : brk N A t i with
      | none =>
        rw [segs_none lt b] at hs
        exact ih (t.length - (i + 1)) (by omega) done (i + 1) rfl (by omega) s hs
      | some r =>
        obtain ⟨k, z, e⟩ := r
        obtain ⟨b1, b2, _⟩ := brk_is b
        rw [segs_some lt b] at hs
        rcases List.mem_append.mp hs with h | h
        · exact .inl (plain_kind s h)
        · rcases List.mem_cons.mp h with h | h
          · rw [h]
            exact .inr (brk_after b)
          · exact ih (t.length - e) (by omega) e e rfl b2 s h
    · rw [segs_end lt] at hs
      exact .inl (plain_kind s hs)
end Pg

/-! Dicts with texts as keys, as rows of pairs. -/
namespace Pg
open PySem PySem.Spec PyProof.Rows L2
section
variable {β : Type}
/-- the row of pairs as the dict's own -/
def enc (f : β → V) (kvs : List (Str × β)) : List (Key × V) := kvs.map fun p => (Sum.inr p.1, f p.2)
def getS : List (Str × β) → Str → Option β
  | [], _ => none
  | p :: r, k => if p.1 = k then some p.2 else getS r k
/-- in its place, or at the end -/
def putS : List (Str × β) → Str → β → List (Str × β)
  | [], k, v => [(k, v)]
  | p :: r, k, v => if p.1 = k then (p.1, v) :: r.map (fun q => if q.1 = k then (q.1, v) else q) else p :: putS r k v
theorem valV_enc (f : β → V) : ∀ (kvs : List (Str × β)) (k : Str), valV (enc f kvs) (Sum.inr k) = (getS kvs k).map f
  | [], k => rfl
  | p :: r, k => by
    by_cases e : p.1 = k
    · rw [show enc f (p :: r) = (Sum.inr p.1, f p.2) :: enc f r from rfl, valV_pos (by rw [e]), getS, if_pos e]
      rfl
    · rw [show enc f (p :: r) = (Sum.inr p.1, f p.2) :: enc f r from rfl, valV_neg (fun h => e (Sum.inr.inj h)), getS, if_neg e]
      exact valV_enc f r k
theorem any_enc (f : β → V) : ∀ (kvs : List (Str × β)) (k : Str), ((enc f kvs).any fun kv => decide (kv.1 = Sum.inr k)) = (getS kvs k).isSome
  | [], k => rfl
  | p :: r, k => by
    rw [show enc f (p :: r) = (Sum.inr p.1, f p.2) :: enc f r from rfl, List.any_cons, getS]
    by_cases e : p.1 = k
    · rw [if_pos e, decide_eq_true (by rw [e]), Bool.true_or]
      rfl
    · rw [if_neg e, decide_eq_false (fun h => e (Sum.inr.inj h)), Bool.false_or]
      exact any_enc f r k
theorem map_enc (f : β → V) (k : Str) (v : β) : ∀ kvs : List (Str × β), (enc f kvs).map (fun kv => if kv.1 = Sum.inr k then (kv.1, f v) else kv) = enc f (kvs.map fun q => if q.1 = k then (q.1, v) else q)
  | [] => rfl
  | p :: r => by
    have ih := map_enc f k v r
    show (if (Sum.inr p.1 : Key) = Sum.inr k then ((Sum.inr p.1 : Key), f v) else (Sum.inr p.1, f p.2)) :: (enc f r).map _ = (Sum.inr (if p.1 = k then (p.1, v) else p).1, f (if p.1 = k then (p.1, v) else p).2) :: enc f (r.map _)
    rw [ih]
    by_cases e : p.1 = k
    · rw [if_pos e, if_pos (by rw [e])]
    · rw [if_neg e, if_neg (fun h => e (Sum.inr.inj h))]
theorem putS_has : ∀ {kvs : List (Str × β)} {k : Str} {v : β}, (getS kvs k).isSome = true → putS kvs k v = kvs.map (fun q => if q.1 = k then (q.1, v) else q)
  | [], k, v, h => by cases h
  | p :: r, k, v, h => by
    unfold putS
    by_cases e : p.1 = k
    · rw [if_pos e, List.map_cons, if_pos e]
    · rw [getS, if_neg e] at h
      rw [if_neg e, putS_has h, List.map_cons, if_neg e]
theorem putS_new : ∀ {kvs : List (Str × β)} {k : Str} {v : β}, (getS kvs k).isSome = false → putS kvs k v = kvs ++ [(k, v)]
  | [], k, v, h => rfl
  | p :: r, k, v, h => by
    unfold putS
    by_cases e : p.1 = k
    · rw [getS, if_pos e] at h
      cases h
    · rw [getS, if_neg e] at h
      rw [if_neg e, putS_new h]
      rfl
theorem putK_enc (f : β → V) (kvs : List (Str × β)) (k : Str) (v : β) : putK (enc f kvs) (Sum.inr k) (f v) = enc f (putS kvs k v) := by
  unfold putK
  rw [any_enc]
  cases e : (getS kvs k).isSome with
  | true => rw [if_pos rfl, putS_has e, map_enc]
  | false =>
    rw [if_neg Bool.false_ne_true, putS_new e]
    unfold enc
    rw [List.map_append]
    rfl
theorem keys_put : ∀ (kvs : List (Str × β)) (k : Str) (v : β), (putS kvs k v).map (·.1) = if (getS kvs k).isSome = true then kvs.map (·.1) else kvs.map (·.1) ++ [k] := by
  intro kvs k v
  cases e : (getS kvs k).isSome with
  | true =>
    rw [if_pos rfl, putS_has e, List.map_map]
    refine List.map_congr_left fun p _ => ?_
    show (if p.1 = k then (p.1, v) else p).1 = p.1
    split <;> rfl
  | false =>
    rw [if_neg Bool.false_ne_true, putS_new e, List.map_append]
    rfl
theorem get_some : ∀ {kvs : List (Str × β)} {k : Str} {v : β}, getS kvs k = some v → (k, v) ∈ kvs
  | [], k, v, h => by cases h
  | p :: r, k, v, h => by
    rw [getS] at h
    by_cases e : p.1 = k
    · rw [if_pos e] at h
      obtain rfl := Option.some.inj h
      rw [← e]
      exact List.mem_cons_self
    · rw [if_neg e] at h
      exact List.mem_cons_of_mem _ (get_some h)
theorem get_none : ∀ {kvs : List (Str × β)} {k : Str}, getS kvs k = none ↔ k ∉ kvs.map (·.1)
  | [], k => ⟨fun _ h => (by cases h), fun _ => rfl⟩
  | p :: r, k => by
    rw [getS, List.map_cons, List.mem_cons]
    by_cases e : p.1 = k
    · rw [if_pos e]
      exact ⟨fun h => (by cases h), fun h => absurd (Or.inl e.symm) h⟩
    · rw [if_neg e, get_none]
      exact ⟨fun h z => z.elim (fun q => e q.symm) h, fun h z => h (Or.inr z)⟩
theorem nodup_put {kvs : List (Str × β)} (k : Str) (v : β) (h : (kvs.map (·.1)).Nodup) : ((putS kvs k v).map (·.1)).Nodup := by
  rw [keys_put]
  split
  · exact h
  · rename_i e
    have n : getS kvs k = none := by
      cases q : getS kvs k with
      | none => rfl
      | some _ => rw [q] at e; exact absurd rfl e
    have nin := get_none.mp n
    rw [List.nodup_append]
    exact ⟨h, by simp, fun a ha c hc => by rw [List.mem_singleton.mp hc]; rintro rfl; exact nin ha⟩
theorem mem_put {kvs : List (Str × β)} {k : Str} {v : β} {p : Str × β} (h : p ∈ putS kvs k v) : p = (k, v) ∨ p ∈ kvs := by
  cases e : (getS kvs k).isSome with
  | true =>
    rw [putS_has e] at h
    obtain ⟨q, hq, rfl⟩ := List.mem_map.mp h
    by_cases z : q.1 = k
    · rw [if_pos z, z]
      exact Or.inl rfl
    · rw [if_neg z]
      exact Or.inr hq
  | false =>
    rw [putS_new e] at h
    rcases List.mem_append.mp h with h | h
    · exact Or.inr h
    · exact Or.inl (List.mem_singleton.mp h)
theorem get_put {kvs : List (Str × β)} {k j : Str} {v : β} : getS (putS kvs k v) j = if j = k then some v else getS kvs j := by
  induction kvs with
  | nil =>
    show (if k = j then some v else none) = _
    by_cases e : j = k
    · rw [if_pos e, if_pos e.symm]
    · rw [if_neg e, if_neg (fun h => e h.symm)]
      rfl
  | cons p r ih =>
    unfold putS
    by_cases e : p.1 = k
    · rw [if_pos e]
      by_cases z : j = k
      · rw [if_pos z, getS, if_pos (by rw [z]; exact e)]
      · rw [if_neg z, getS, getS, if_neg (by rw [e]; exact fun h => z h.symm), if_neg (by rw [e]; exact fun h => z h.symm)]
        have mp : ∀ l : List (Str × β), getS (l.map fun q => if q.1 = k then (q.1, v) else q) j = getS l j := by
          intro l
          induction l with
          | nil => rfl
          | cons q l il =>
            rw [List.map_cons, getS, getS, il]
            by_cases w : q.1 = k
            · rw [if_pos w, if_neg (by show ¬ q.1 = j; rw [w]; exact fun h => z h.symm), if_neg (by rw [w]; exact fun h => z h.symm)]
            · rw [if_neg w]
        exact mp r
    · rw [if_neg e, getS, getS, ih]
      by_cases z : p.1 = j
      · rw [if_pos z, if_pos z, if_neg (by rw [← z]; exact e)]
      · rw [if_neg z, if_neg z]
theorem len_put (kvs : List (Str × β)) (k : Str) (v : β) : (putS kvs k v).length ≤ kvs.length + 1 := by
  cases e : (getS kvs k).isSome with
  | true => rw [putS_has e, List.length_map]; omega
  | false => rw [putS_new e, List.length_append]; exact Nat.le_refl _
end
/-- some different texts out of a row are no more than the row -/
theorem few_of : ∀ {xs ys : List Str}, xs.Nodup → (∀ x ∈ xs, x ∈ ys) → xs.length ≤ ys.length
  | [], _, _, _ => Nat.zero_le _
  | x :: r, ys, nd, h => by
    obtain ⟨nx, nr⟩ := List.nodup_cons.mp nd
    have mx := h x List.mem_cons_self
    have ih := few_of (ys := ys.erase x) nr fun y hy => (List.mem_erase_of_ne (by rintro rfl; exact nx hy)).mpr (h y (List.mem_cons_of_mem _ hy))
    rw [List.length_erase_of_mem mx] at ih
    have : 0 < ys.length := List.length_pos_of_mem mx
    rw [List.length_cons]
    omega
end Pg

/-! Texts in their order: sorted of any number, and rows that rise. -/
namespace Pg
open PySem PySem.Spec PyProof.Rows L2
section
variable {X : Cx}
/-- sorted(l), l a row of texts of any length: the same texts, in order, in a new row -/
def rSortedSA (K : PySem.W.Frag) : List V → Hp → VK → Prop := fun args H Q =>
  ∃ (l : Addr) (texts : List Str), args = [.ref l] ∧ SqL K H l (texts.map V.str) ∧
    ∀ (inOrder : List Str) (new : Addr), inOrder.Perm texts → sortedS inOrder = true → H new = none →
      Q (.ref new) (upd H new (.lst (inOrder.map V.str)))
theorem cr_sortedSA : CallR X (.builtin "sorted") (rSortedSA X.K) := by
  rintro pins s σ H args vals Q I rel ⟨l, texts, rfl, at_l, want⟩
  obtain ⟨items, same, isl, small⟩ := I.list at_l
  rw [Vals.ref1 rel]
  have size := same.length
  apply PyProof.Rows.sorted_strsAny isl.isList same.strs (by rw [← size]; exact small)
  intro out inOrder areTexts perm order
  obtain ⟨extra, made⟩ := PyProof.Rows.sortedAll_at s.heap items out
  have isNew : H (s.heap.objs.size + 1) = none := I.hok.fresh (Nat.le_succ _)
  have fits : (inOrder.map V.str).length ≤ sizeLine := by
    rw [List.length_map] at small ⊢
    rw [perm.length_eq]
    exact small
  refine ⟨V.ref (s.heap.objs.size + 1), upd H (s.heap.objs.size + 1) (.lst (inOrder.map V.str)), ?_, rfl, ?_⟩
  · apply I.laid (t' := s.toks) (fun _ _ old => PyProof.Rows.sortedAll_old old) (Nat.le_succ _)
    exact ⟨fits, out.toList, extra, vals_of_strs areTexts, made⟩
  · exact want inOrder _ perm order isNew
end
theorem lc_irr : ∀ a : List Nat, ltCps a a = false
  | [] => rfl
  | x :: r => by simp [ltCps, lc_irr r]
theorem lc_trans : ∀ {a b c : List Nat}, ltCps a b = true → ltCps b c = true → ltCps a c = true
  | [], [], _, h, _ => by cases h
  | [], _ :: _, [], _, h => by cases h
  | [], _ :: _, _ :: _, _, _ => rfl
  | _ :: _, [], _, h, _ => by cases h
  | _ :: _, _ :: _, [], _, h => by cases h
  | x :: a, y :: b, z :: c, h, k => by
    simp only [ltCps, Bool.or_eq_true, decide_eq_true_eq, Bool.and_eq_true, beq_iff_eq] at h k ⊢
    rcases h with h | ⟨rfl, h⟩
    · rcases k with k | ⟨rfl, k⟩
      · exact Or.inl (by omega)
      · exact Or.inl h
    · rcases k with k | ⟨rfl, k⟩
      · exact Or.inl k
      · exact Or.inr ⟨rfl, lc_trans h k⟩
theorem lc_tri : ∀ {a b : List Nat}, ltCps a b = false → ltCps b a = false → a = b
  | [], [], _, _ => rfl
  | [], _ :: _, h, _ => by cases h
  | _ :: _, [], _, h => by cases h
  | x :: a, y :: b, h, k => by
    simp only [ltCps, Bool.or_eq_false_iff, decide_eq_false_iff_not, Bool.and_eq_false_iff, beq_eq_false_iff_ne] at h k
    have e : x = y := by omega
    subst e
    rw [lc_tri (h.2.resolve_left fun q => q rfl) (k.2.resolve_left fun q => q rfl)]
/-- x stands ahead of y -/
def ahead (x y : Str) : Bool := ltCps (cd x) (cd y)
theorem ahead_irr (x : Str) : ahead x x = false := lc_irr _
theorem ahead_trans {x y z : Str} (h : ahead x y = true) (k : ahead y z = true) : ahead x z = true := lc_trans h k
theorem ahead_tri {x y : Str} (h : ahead x y = false) (k : ahead y x = false) : x = y := cd_inj (lc_tri h k)
/-- each stands ahead of the next ones -/
def Rise (l : List Str) : Prop := l.Pairwise fun a b => ahead a b = true
def insS (x : Str) : List Str → List Str
  | [] => [x]
  | y :: r => if ahead x y = true then x :: y :: r else if x = y then y :: r else y :: insS x r
def rise (l : List Str) : List Str := l.foldr insS []
theorem mem_ins {x z : Str} : ∀ {l : List Str}, z ∈ insS x l ↔ z = x ∨ z ∈ l
  | [] => by simp [insS]
  | y :: r => by
    unfold insS
    split
    · simp
    · split
      · rename_i e
        subst e
        simp
      · rw [List.mem_cons, mem_ins, List.mem_cons]
        constructor
        · rintro (h | h | h)
          · exact Or.inr (Or.inl h)
          · exact Or.inl h
          · exact Or.inr (Or.inr h)
        · rintro (h | h | h)
          · exact Or.inr (Or.inl h)
          · exact Or.inl h
          · exact Or.inr (Or.inr h)
theorem rise_ins {x : Str} : ∀ {l : List Str}, Rise l → Rise (insS x l)
  | [], _ => List.pairwise_singleton _ _
  | y :: r, h => by
    obtain ⟨h1, h2⟩ := List.pairwise_cons.mp h
    unfold insS
    split
    · rename_i e
      refine List.pairwise_cons.mpr ⟨fun z hz => ?_, h⟩
      rcases List.mem_cons.mp hz with rfl | hz
      · exact e
      · exact ahead_trans e (h1 z hz)
    · split
      · exact h
      · rename_i e ne
        refine List.pairwise_cons.mpr ⟨fun z hz => ?_, rise_ins h2⟩
        rcases mem_ins.mp hz with rfl | hz
        · cases q : ahead y z with
          | true => rfl
          | false =>
            refine absurd (ahead_tri ?_ q) ne
            cases w : ahead z y with
            | false => rfl
            | true => exact absurd w e
        · exact h1 z hz
theorem rise_rise : ∀ l : List Str, Rise (rise l)
  | [] => List.Pairwise.nil
  | x :: r => rise_ins (rise_rise r)
theorem mem_rise {z : Str} : ∀ {l : List Str}, z ∈ rise l ↔ z ∈ l
  | [] => Iff.rfl
  | x :: r => by
    show z ∈ insS x (rise r) ↔ _
    rw [mem_ins, mem_rise, List.mem_cons]
/-- rows that rise and have the same texts are one -/
theorem rise_ext : ∀ {a b : List Str}, Rise a → Rise b → (∀ x, x ∈ a ↔ x ∈ b) → a = b
  | [], [], _, _, _ => rfl
  | [], y :: b, _, _, h => by cases (h y).mpr List.mem_cons_self
  | x :: a, [], _, _, h => by cases (h x).mp List.mem_cons_self
  | x :: a, y :: b, ha, hb, h => by
    obtain ⟨ha1, ha2⟩ := List.pairwise_cons.mp ha
    obtain ⟨hb1, hb2⟩ := List.pairwise_cons.mp hb
    have e : x = y := by
      rcases List.mem_cons.mp ((h x).mp List.mem_cons_self) with e | hx
      · exact e
      · rcases List.mem_cons.mp ((h y).mpr List.mem_cons_self) with e | hy
        · exact e.symm
        · have := ahead_trans (hb1 x hx) (ha1 y hy)
          rw [ahead_irr] at this
          cases this
    subst e
    rw [rise_ext ha2 hb2 fun z => ?_]
    constructor
    · intro hz
      rcases List.mem_cons.mp ((h z).mp (List.mem_cons_of_mem _ hz)) with e | hz2
      · rw [e] at hz
        have := ha1 x hz
        rw [ahead_irr] at this
        cases this
      · exact hz2
    · intro hz
      rcases List.mem_cons.mp ((h z).mpr (List.mem_cons_of_mem _ hz)) with e | hz2
      · rw [e] at hz
        have := hb1 x hz
        rw [ahead_irr] at this
        cases this
      · exact hz2
theorem rising_pw : ∀ {l : List Str} {p : Str}, risingS p l = true → (∀ x ∈ l, ahead x p = false) ∧ l.Pairwise fun a b => ahead b a = false
  | [], _, _ => ⟨fun x hx => (by cases hx), List.Pairwise.nil⟩
  | x :: r, p, h => by
    obtain ⟨h1, h2⟩ := Bool.and_eq_true_iff.mp h
    have hxp : ahead x p = false := by
      cases q : ahead x p with
      | false => rfl
      | true =>
        have h1 : (!ahead x p) = true := h1
        rw [q] at h1
        cases h1
    obtain ⟨k1, k2⟩ := rising_pw h2
    refine ⟨fun z hz => ?_, List.pairwise_cons.mpr ⟨k1, k2⟩⟩
    rcases List.mem_cons.mp hz with rfl | hz
    · exact hxp
    · have hzx := k1 z hz
      cases q : ahead z p with
      | false => rfl
      | true =>
        cases w : ahead p x with
        | true =>
          have := ahead_trans q w
          rw [hzx] at this
          cases this
        | false =>
          have e := ahead_tri hxp w
          rw [e] at hzx
          rw [hzx] at q
          cases q
theorem sorted_pw {l : List Str} (h : sortedS l = true) : l.Pairwise fun a b => ahead b a = false := by
  cases l with
  | nil => exact List.Pairwise.nil
  | cons x r =>
    obtain ⟨h1, h2⟩ := rising_pw (p := x) (l := r) h
    exact List.pairwise_cons.mpr ⟨h1, h2⟩
/-- the next of a sorted row, if it is new, rises behind what stands -/
theorem rise_snoc {rs ys : List Str} {j : Nat} {y : Str} (hr : Rise rs) (hm : ∀ x, x ∈ rs ↔ x ∈ ys.take j) (hs : sortedS ys = true) (hy : ys[j]? = some y) (nin : y ∉ rs) : Rise (rs ++ [y]) := by
  refine List.pairwise_append.mpr ⟨hr, List.pairwise_singleton _ _, fun a ha b hb => ?_⟩
  rw [List.mem_singleton.mp hb]
  have pw := sorted_pw hs
  have ha2 := (hm a).mp ha
  obtain ⟨i, hi⟩ := List.getElem?_of_mem ha2
  have hij : i < j := by
    by_cases lt : i < j
    · exact lt
    · rw [List.getElem?_eq_none (by rw [List.length_take]; omega)] at hi
      cases hi
  rw [List.getElem?_take_of_lt hij] at hi
  have li : i < ys.length := by
    by_cases lt : i < ys.length
    · exact lt
    · rw [List.getElem?_eq_none (by omega)] at hi
      cases hi
  have lj : j < ys.length := by
    by_cases lt : j < ys.length
    · exact lt
    · rw [List.getElem?_eq_none (by omega)] at hy
      cases hy
  have e1 : ys[i] = a := by
    rw [List.getElem?_eq_getElem li] at hi
    exact Option.some.inj hi
  have e2 : ys[j] = y := by
    rw [List.getElem?_eq_getElem lj] at hy
    exact Option.some.inj hy
  have h := (List.pairwise_iff_getElem.mp pw) i j li lj hij
  rw [e1, e2] at h
  cases q : ahead a y with
  | true => rfl
  | false => exact absurd (ahead_tri h q) (by rintro rfl; exact nin ha)
end Pg

/-! The package's own error with a field: OutOfRange(name), whose __init__ hands a text on to its base's and keeps the name. -/
namespace PySem
namespace OorX
open PySem.W PySem.Calls PyProof.Rows PySem.HandSPX
def iA (p1 p2 : Pos) : Arguments := { posonlyargs := [], args := [{ arg := "self", annotation := none, pos := p1 }, { arg := "name", annotation := none, pos := p2 }], vararg := none, kwonlyargs := [], kw_defaults := [], kwarg := none, defaults := [] }
def behindS : Str := " is out of range"
/-- the text that is handed on -/
def jS (q0 q1 q2 q3 : Pos) : Expr := .JoinedStr [.FormattedValue (.Name "name" q0) (-1) none q1, .Constant (.str behindS) 0 q2] q3
def s1 (j : Expr) (r1 r2 r3 r4 r5 : Pos) : Stmt := .Expr (.Call (.Attribute (.Call (.Name "super" r1) [] [] r2) "__init__" r3) [j] [] r4) r5
def s2 (q1 q2 q3 q4 : Pos) : Stmt := .Assign [.Attribute (.Name "self" q1) "name" q2] (.Name "name" q3) q4
def iS : Scope := { kind := .function, names := [(PySem.Str.ofString "self", .local), (PySem.Str.ofString "name", .local), (PySem.Str.ofString "__class__", .free), (PySem.Str.ofString "super", .globalImplicit)], isGenerator := false, isCoroutine := false, more := [] }
/-- what the written part says of OutOfRange, at C, and of its __init__, at fI -/
structure OorTxt (prog : Program) (K : Frag) (mg : Str → Option Value) (C fI : Addr) : Prop where
  gC : mg "OutOfRange" = some (.ref C)
  gS : mg "super" = none
  cls : ∃ nm q N bs bm sn sub ab col dd k0 k1 k2 k3 k5, K.lookup C = some (excClassObj nm q C N bs bm true sn sub ab col dd k0 k1 k2 k3 k5 "ValueError.__new__") ∧ refsVE bm = true
  sa : findIn K (.ref C) "__setattr__" = some (some (.builtin "object.__setattr__"))
  ga : findIn K (.ref C) "__getattribute__" = some (some (.builtin "BaseException.__getattribute__"))
  gg : findIn K (.ref C) "__getattr__" = some none
  noN : findIn K (.ref C) "name" = some none
  iC : findIn K (.ref C) "__init__" = some (some (.ref fI))
  tC : typeIn K (.ref fI) = some (.type "function")
  kC : keepIn K (.ref C) = true
  exC : subIn K (.ref C) (.type "BaseException") = some true
  veC : subIn K (.ref C) (.type "ValueError") = some true
  tyC : typeIn K (.ref C) = some (.type "type")
  hdC : hasDictIn K C = true
  te : exmOne K (.ref C) (.ref C) = some true
  opq : nsIn K cStatics "thirdparty.any" = some none
  sup : ks_superIn K C C "__init__" = some (some (.builtin "ValueError.__init__"))
  own : mroIn K C (.ref C) = some true
  top : (prog.main.scope.names.lookup ("super" : Str)).isSome = false
  fn : ∃ (oc : Value) (od : Option Addr) (doc pm : Value) (an : Option Addr) (cc cda : Addr) (ct : Value) (osl : Array (Option Value)) (p1 p2 q0 q1 q2 q3 r1 r2 r3 r4 r5 u1 u2 u3 u4 : Pos),
    K.lookup fI = some ⟨oc, od, .func (ksFn "__init__" "OutOfRange.__init__" (iA p1 p2) [s1 (jS q0 q1 q2 q3) r1 r2 r3 r4 r5, s2 u1 u2 u3 u4] iS .none .none doc pm an (.ref cda) ct cc), osl⟩ ∧ codeIn K (.ref cda) "OutOfRange.__init__" = true ∧
    (∃ (ccl : Value) (cdd : Option Addr) (vs : Array Value) (ccs : Array (Option Value)) (file : Str) (tf : Tok), K.lookup cda = some ⟨ccl, cdd, .fields vs, ccs⟩ ∧ vs[2]? = some (.str file tf) ∧ ((prog.main.file : Str) == file) = true) ∧ (r3.endLine == r4.line) = true ∧
    ∃ (cl : Value) (cld : Option Addr) (csl : Array (Option Value)), K.lookup cc = some ⟨cl, cld, .cell (some (.ref C)), csl⟩
/-- what __init__ leaves of a fresh exception at x -/
structure InitEnd (h h' : Heap) (x C dx t1 : Addr) (v : Value) : Prop where
  keep : ∀ b o, b ≠ x → h.get? b = some o → h'.get? b = some o
  obj : h'.get? x = some { cls := .ref C, dict := some dx, data := .fields #[.ref t1, .none, .none, .none, .bool false, .none] }
  dbig : h.objs.size ≤ dx
  dne : dx ≠ x
  ns : h'.Ns1 dx (fun y => if y = "name" then some v else none)
section
variable {prog : Program} {w : World} {A : Around} {E : Value → Shared → Prop} {R : Result → Shared → Prop} {s : Shared} {K : Frag} {mg mb : Str → Option Value} {C fI : Addr}
/-- a bound __init__, called with one written text -/
theorem call1 {M : Model} {pos jp : Pos} {env : Env} {vals : List Expr} {u x : Addr} {i : String} {Q : Value → Shared → Prop}
    (h : wpAny M A (spliced (backTo pos (starEach [.JoinedStr vals jp] env)))
      (fun vs s₁ => KxsAt i u x s₁.heap ∧ wpAny M A (call (.ref u) vs) Q E s₁) E s) :
    wpAny M A (callWith pos (.ref u) [] (backTo pos (starEach [.JoinedStr vals jp] env)) []) Q E s := by
  have one : starEach [.JoinedStr vals jp] env = [(false, eval (.JoinedStr vals jp) env)] := rfl
  rw [one] at h ⊢
  exact kxs_callWith (i := i) (x := x) rfl (evalArgs_plain h)
theorem run_bound {u x t0 : Addr} {v : Value} {nm q : Str} {N : Addr} {bs bm : List Value} {sn : List Str} {sub : List Value} {ab : Bool} {col : Option Bool} {dd : Option Addr} {k0 k1 k2 k3 k5 : Option Value} {Q : Value → Shared → Prop}
    (hC : s.heap.get? C = some (excClassObj nm q C N bs bm true sn sub ab col dd k0 k1 k2 k3 k5 "ValueError.__new__")) (hu : s.heap.get? u = some (kxs_mw "ValueError.__init__" x)) (hx : s.heap.get? x = some (excO C t0))
    (h : ∀ h', (∀ b o, b ≠ x → s.heap.get? b = some o → h'.get? b = some o) → h'.get? x = some (excO C s.heap.objs.size) → Q .none { s with heap := h' }) :
    wpAny (model prog w) A (call (.ref u) [v]) Q E s := by
  obtain ⟨hh, g, d, tk, os⟩ := s
  refine wpAny_call (codeAny_of_tree ?_)
  show wpAny _ A.in1 (callAny (.ref u) ⟨[v], []⟩) _ _ _
  simp only [callAny]
  refine wpAny_bind (wpAny_load hu ?_)
  have wrapper : ∀ b : Bool, (b || (Value.type "method-wrapper" == Value.type "method-wrapper")) = true := by decide
  simp only [kxs_mw, wrapper, if_true]
  refine KFB.if_so (by decide) ?_
  refine wpAny_bind (check_bound_init F.excBase_ValueError.toExcCallFacts hC hx rfl ?_)
  refine wpAny_bind (wpAny_pure (wpAny_pure ?_))
  refine ⟨plainId_quiet F.excBase_ValueError.init.plain _, codeAny_builtin F.excBase_ValueError.initEntry ?_⟩
  exact exc_init_tree (cls := .ref C) (t0 := t0) (dv := none) (c2 := .none) (c3 := .none) (b4 := .bool false) hx (by rw [sizeLine_eq]; exact (by decide : 1 ≤ 16777216)) fun h' k e _ => h h' k e
theorem oor_init (T : OorTxt prog K mg C fI) {x t0 : Addr} {z : Str} {tz : Tok} (hz : z.length ≤ 1000) (X : K.In s.heap) (G : s.heap.Ns mainGlobals mg) (B : s.heap.Ns builtinsNs mb) (hsup : mb "super" = some (.type "super")) (hlim : s.heap.NoLimit)
    (hx : s.heap.get? x = some (excO C t0)) (hnx : K.lookup x = none) (hroom : A.depth < recursionLimit)
    (hq : ∀ h' tk dx t1, InitEnd s.heap h' x C dx t1 (.str z tz) → R (.ok (.ret .none)) { s with heap := h', toks := tk }) :
    codeAny (model prog w) A (.call (.ref fI) ⟨[.ref x, .str z tz], []⟩) R s := by
  obtain ⟨oc, od, doc, pm, an, cc, cda, ct, osl, p1, p2, q0, q1, q2, q3, r1, r2, r3, r4, r5, u1, u2, u3, u4, ho, hcd, ⟨ccl, cdd, vs, ccs, file, tf, hcode, hvs, hfile⟩, ln, cl, cld, csl, hcell⟩ := T.fn
  obtain ⟨nm, q, N, bs, bm, sn, sub, ab, col, dd, k0, k1, k2, k3, k5, hC, hbm⟩ := T.cls
  have hcl : clsIn K C = some { name := nm, bases := bs, mro := .ref C :: bm, ns := N, qualname := q, hasDict := true, slotNames := sn, subclasses := sub, abstract := ab, collection := col, hasDel := false } := by unfold clsIn; rw [hC] <;> rfl
  refine ks_codeAny_call_defAt (fd := ksFn "__init__" "OutOfRange.__init__" (iA p1 p2) [s1 (jS q0 q1 q2 q3) r1 r2 r3 r4 r5, s2 u1 u2 u3 u4] iS .none .none doc pm an (.ref cda) ct cc) (binds := [("self", .ref x), ("name", .str z tz)]) hroom (X _ _ ho) rfl hlim (codeRec_of X hcd) rfl
    (BindsTo.of_eq (by first | rfl | with_unfolding_all rfl)) (fun y hy => by
      have : ∀ y ∈ iS.names, y.2 ≠ .cell := by decide
      exact this y hy) (fun y hy => by
      have : ∀ y ∈ ["self", "name"], iS.names.lookup (y : Str) = some .local := by decide +kernel
      rcases List.mem_cons.mp hy with rfl | hy
      · exact this _ (.head _)
      · rcases List.mem_cons.mp hy with rfl | hy
        · exact this _ (.tail _ (.head _))
        · cases hy) (fun h₁ hns kk => ?_)
  have X₁ : K.In h₁ := X.keeps kk
  have hx₁ := kk _ _ hx
  refine ks_wpAt_execs_cons (ks_wpAt_Expr_any ?_)
  refine' ks_wpAt_MethodCall (pl := ?pl) ?big ?he
  rotate_left
  case he =>
    rw [arm_eval_Call]
    have hpos : ∀ o env, methodCallPos true o env r3 r4 = pure r4 := fun o env => by
      unfold methodCallPos
      rw [ln]
      rfl
    unfold methodCall
    have hform : ∀ (j : Expr) (env : Env), methodCallForm ([j].length + ([] : List Keyword).length) (backTo r4 (starEach [jS q0 q1 q2 q3] env)) (backToKw r4 (keywordEach [] env)) = true := fun j env => by rfl
    simp only [hform, hpos, pure_bind]
    rfl
  have go := X₁ _ _ ho
  have gcode := X₁ _ _ hcode
  have gcell := X₁ _ _ hcell
  have gC := X₁ _ _ hC
  refine ks_wpAt_super_base (env := ksEnv "OutOfRange.__init__" iS s.heap.objs.size fI (.ref cda) cc) (s := ⟨h₁, _, _, _, _⟩) (attr := "__init__") (f := fI) (cc := cda) (ar := { arg := "self", annotation := none, pos := p1 }) rfl rfl (by decide) rfl go rfl rfl rfl gcode rfl hvs hfile T.top ?_
  refine ks_loadName_global rfl rfl (loadGlobal_builtin (G.keeps kk) T.gS (B.keeps kk) hsup ⟨rfl, ?_⟩)
  refine wpAny_loadName_free rfl rfl rfl ⟨_, gcell, rfl⟩ ?_
  refine wpAny_loadName_local rfl rfl hns rfl ?_
  refine ks_wpAny_isType_cls gC rfl ⟨rfl, ?_⟩
  refine ks_wpAny_call_super gC rfl hx₁ rfl (by intro c e; cases e) (looks_mroIn X₁ T.own) (fun h₂ hso k₂ => ?_)
  have X₂ : K.In h₂ := X₁.keeps k₂
  have I₂ : InstAt h₂ x (excO C t0) C none := ⟨k₂ _ _ hx₁, rfl, rfl, trivial⟩
  have hI : Looks (model prog w) h₂ (isInstance (.ref x) (.type "ValueError")) true := I₂.type.andThen (looks_subIn X₂ T.veC)
  have along : alongIn K "__init__" (((Value.ref C :: bm).dropWhile (· != .ref C)).drop 1) = some (some (.builtin "ValueError.__init__")) := by
    have q := T.sup
    unfold ks_superIn at q
    rw [hcl] at q
    exact q
  refine kxs_getMethod kxs_ValueError hso (looks_opaque X₂ T.opq) (l₀ := .ref C :: bm) (fun A Q E s k q => wpAny_bind ((looks_clsIn X₂ hcl) A _ E s k (wpAny_pure q))) rfl X₂ along hI (ks_ne X₂ I₂ hcl) (by decide) ?_
  have k₃ : ∀ b o, h₂.get? b = some o → (h₂.push (kxs_mw "ValueError.__init__" x)).get? b = some o := fun b o e => Heap.get?_push_of_some _ e
  have hu : (h₂.push (kxs_mw "ValueError.__init__" x)).get? h₂.objs.size = some (kxs_mw "ValueError.__init__" x) := Heap.get?_push_at rfl rfl
  have hns₃ := hns.keeps fun b o e => k₃ b o (k₂ b o e)
  generalize hh3 : h₂.push (kxs_mw "ValueError.__init__" x) = h₃ at *
  refine call1 (i := "ValueError.__init__") (x := x) ?_
  refine args_cons ?_
  refine wpAny_JoinedStr ?_
  refine wpAny_FormattedValue_plain (wpAny_Name (wpAny_loadName_local rfl rfl hns₃ rfl ?_) (by decide))
  have lz : z.length ≤ sizeLine := Nat.le_trans hz (by decide)
  refine wpAny_mono (Q := fun v s' => ∃ t tk, v = .str z t ∧ s' = ({ heap := h₃, gens := s.gens, drawn := s.drawn, toks := tk, os := s.os } : Shared)) (E := fun _ _ => False) (wpAny_formatField_str ⟨_, _, rfl, rfl⟩ ⟨_, _, rfl, rfl⟩ lz) (fun v s' hv => ?_) (fun _ _ e => e.elim)
  obtain ⟨t1, tk1, rfl, rfl⟩ := hv
  have l1 : (Str.empty ++ z).length ≤ 1000 := by
    show (#[] ++ z.cps).size ≤ 1000
    rw [Array.empty_append]
    exact hz
  have l2 : ((Str.empty ++ z) ++ behindS).length ≤ 2000 := by
    have e : ((Str.empty ++ z) ++ behindS).length = (Str.empty ++ z).length + behindS.length := by
      show ((Str.empty ++ z).cps ++ behindS.cps).size = _
      rw [Array.size_append]
      rfl
    have e2 : behindS.length = 16 := by decide +kernel
    omega
  refine ⟨z, t1, rfl, Nat.le_trans l1 (by decide), ?_⟩
  refine wpAny_Constant_str ?_
  refine ⟨behindS, _, rfl, Nat.le_trans l2 (by decide), ?_⟩
  refine ⟨Nat.le_trans l2 (by decide), ?_⟩
  refine args_nil ?_
  refine ⟨hu, ?_⟩
  refine run_bound (C := C) (t0 := t0) ((X₂.keeps k₃) _ _ hC) hu (k₃ _ _ (k₂ _ _ hx₁)) (fun h₄ k₄ e₄ => ?_)
  refine wpAt_of_wpAny ?_
  have hns₄ : h₄.Ns s.heap.objs.size (fun y => List.lookup y [(Str.ofString "self", Value.ref x), (Str.ofString "name", Value.str z tz)].reverse) := by
    obtain ⟨oL, es, ep, hL, r⟩ := hns₃
    exact ⟨oL, es, ep, k₄ _ _ (Nat.ne_of_gt (Heap.lt_size hx)) hL, r⟩
  have kx : ∀ b o, b ≠ x → s.heap.get? b = some o → h₄.get? b = some o := fun b o hb e => k₄ b o hb (k₃ b o (k₂ b o (kk b o e)))
  have X₄ : K.In h₄ := fun a o e => kx a o (fun zz => by rw [zz, hnx] at e; cases e) (X a o e)
  refine wpAny_execs_cons (plainObj_wpAny_Assign_Attribute ?_)
  refine wpAny_Name (wpAny_loadName_local rfl rfl hns₄ rfl ?_) (by decide)
  refine wpAny_Name (wpAny_loadName_local rfl rfl hns₄ rfl ?_) (by decide)
  refine set_plain X₄ (ox := excO C h₃.objs.size) (od := none) ⟨e₄, rfl, rfl, trivial⟩ T.sa ?_
  refine exc_osa X₄ e₄ hcl (show refsVE (.ref C :: bm) = true from hbm) rfl T.noN (fun h₅ tk₅ dx k₅ dn dne hx₅ hn₅ => ?_)
  show wpAny _ _ (execs _ _) _ _ _
  exact wpAny_execs_nil (hq h₅ tk₅ dx _ ⟨fun b o hb e => k₅ b o hb (kx b o hb e), hx₅, Nat.le_of_lt (Nat.lt_of_lt_of_le hns₄.lt dn), dne, hn₅⟩)
/-- a made OutOfRange -/
structure OwnMade (h h' : Heap) (e C d : Addr) (v : Value) : Prop where
  keep : ∀ b o, h.get? b = some o → h'.get? b = some o
  new : h.objs.size ≤ e
  obj : ∃ oe vs, h'.get? e = some oe ∧ oe.cls = .ref C ∧ oe.dict = some d ∧ oe.data = .fields vs ∧ vs[1]? = some .none
  dbig : h.objs.size ≤ d
  dne : d ≠ e
  ns : h'.Ns1 d (fun y => if y = "name" then some v else none)
theorem oor_made (T : OorTxt prog K mg C fI) {z : Str} {tz : Tok} (hz : z.length ≤ 1000) (X : K.In s.heap) (G : s.heap.Ns mainGlobals mg) (B : s.heap.Ns builtinsNs mb) (hsup : mb "super" = some (.type "super")) (hlim : s.heap.NoLimit) (hroom : A.depth + 1 < recursionLimit)
    (hq : ∀ h' tk e d, OwnMade s.heap h' e C d (.str z tz) → R (.ok (.ret (.ref e))) { s with heap := h', toks := tk }) :
    codeAny (model prog w) A (.call (.ref C) ⟨[.str z tz], []⟩) R s := by
  obtain ⟨nm, q, N, bs, bm, sn, sub, ab, col, dd, k0, k1, k2, k3, k5, hC, hbm⟩ := T.cls
  obtain ⟨hp, g, dr, tk, os⟩ := s
  have k : ∀ b o, hp.get? b = some o → ((hp.push (kdv_tup [.str z tz])).push (excO C hp.objs.size)).get? b = some o := fun b o e => Heap.get?_push_of_some _ (Heap.get?_push_of_some _ e)
  have hget : ((hp.push (kdv_tup [.str z tz])).push (excO C hp.objs.size)).get? (hp.objs.size + 1) = some (excO C hp.objs.size) := by heap_get
  have hnx : K.lookup (hp.objs.size + 1) = none := by
    cases e : K.lookup (hp.objs.size + 1) with
    | none => rfl
    | some o =>
      have q : hp.get? (hp.objs.size + 1) = some o := X _ _ e
      exact absurd (Nat.lt_of_succ_lt (Heap.lt_size q)) (Nat.lt_irrefl _)
  refine call_own F.excBase_ValueError (fun X => refsVE_contains X bm hbm) (X _ _ hC) (looks_findIn X T.iC) (fun self => bind_fn X self T.tC) (by rw [sizeLine_eq]; exact (by decide : 1 ≤ 16777216)) ?_
  refine oor_init (s := ⟨(hp.push (kdv_tup [.str z tz])).push (excO C hp.objs.size), g, dr, tk, os⟩) T hz (X.keeps k) (G.keeps k) (B.keeps k) hsup (hlim.keeps k) hget hnx ?_ fun h' tk' dx t1 ⟨k', hx, dn, dne, hns⟩ => ?_
  · show A.depth + 1 < recursionLimit
    exact hroom
  · have old : ∀ b o, hp.get? b = some o → h'.get? b = some o := fun b o e => k' b o (Nat.ne_of_lt (Nat.lt_succ_of_lt (Heap.lt_size e))) (k b o e)
    have big : hp.objs.size + 1 + 1 ≤ dx := by
      first
        | (simpa only [Heap.size_push] using dn)
        | exact dn
        | (have q := dn; rw [Heap.size_push, Heap.size_push] at q; exact q)
    exact ⟨rfl, hq h' tk' (hp.objs.size + 1) dx ⟨old, Nat.le_succ _, ⟨_, _, hx, rfl, rfl, rfl, rfl⟩, Nat.le_trans (Nat.le_trans (Nat.le_succ _) (Nat.le_succ _)) big, dne, hns⟩⟩
end
end OorX
end PySem
namespace Pg
open PySem PySem.Spec PyProof.Rows L2 PySem.OorX
theorem relO_oor {v : V} {v' : Value} (r : RelV v v') (f : Str) : RelO (List.lookup f [(("name" : Str), v)]) (if f = "name" then some v' else none) := by
  by_cases hw : f = "name"
  · subst hw
    rw [if_pos rfl]
    have q : List.lookup ("name" : Str) [(("name" : Str), v)] = some v := by simp [List.lookup]
    rw [q]
    exact r
  · rw [if_neg hw]
    have qw : (f == ("name" : Str)) = false := by simpa using hw
    have q2 : List.lookup f [(("name" : Str), v)] = none := by simp [List.lookup, qw]
    rw [q2]
    trivial
section
variable {X : Cx} {C fI : Addr}
/-- OutOfRange(e) -/
def tMkOor (C : Addr) (ta : TA) : L2.St → Hp → XK → Prop := fun σ H Q => ta σ H fun vs H1 => ∃ z : Str, vs = [.str z] ∧ z.length ≤ 1000 ∧ ∀ d, H1 d = none → Q (.ref C) (some d) (upd H1 d (.xd [(("name" : Str), .str z)]))
theorem pmk_oor {a : Expr} {ta : TA} {p pos : Pos} {k : Nat} (T : OorTxt X.prog X.K X.mg C fI) (hr : Room k X.A) (ha : PA X [a] ta) (hg : Gl X "OutOfRange" := by rfl)
    (he : starEach (a :: []) X.env = (false, eval a X.env) :: starEach [] X.env := by rfl) (hpl : (backTo pos (starEach [] X.env)).any (·.1) = false := by rfl) :
    PMk X (.Call (.Name "OutOfRange" p) [a] [] pos) (tMkOor C ta) := by
  intro pins s σ H Q I h
  refine wpAny_Call_Name_kw (ld_glob I hg T.gC ?_)
  refine PySem.W.callWith_K (h₀ := X.base) I.ok.mod.kin T.kC (thn (ha.run pos pins s σ H _ I h) fun us s1 hh => ?_) he hpl
  obtain ⟨vs, H1, I1, r1, z, ev, hz, q1⟩ := hh
  subst ev
  refine ⟨I1.kIn, ?_⟩
  cases r1 with
  | cons rv rn =>
    rename_i v' us'
    cases rn
    obtain ⟨tz, rfl⟩ := rv
    show wpAny _ _ (call (.ref C) [.str z tz]) _ _ _
    have hlim := I1.nolimit
    obtain ⟨mb, hb1, hb2⟩ := I1.mod.blt
    have G1 := I1.mod.glob.keeps I1.bk
    have B1 := hb1.keeps I1.bk
    have hsup : mb "super" = some (.type "super") := (hb2 _ (by decide)).trans (by kernel_rfl)
    obtain ⟨hp, g, dr, tk, os⟩ := s1
    refine wpAny_call (oor_made T hz I1.kIn G1 B1 hsup hlim (by have := hr.dp; omega) fun h' tk' e d M => ?_)
    show MkP X pins σ Q (.ref e) ⟨h', g, dr, tk', os⟩
    obtain ⟨oe, fv, hoe, hc, hd, hdat, h1⟩ := M.obj
    have hns := M.ns
    obtain ⟨G', g1, g2⟩ := restrict h' fun b => decide (b ≠ e)
    have gk : ∀ b, b ≠ e → G'.get? b = h'.get? b := fun b hb => g1 b (decide_eq_true hb)
    have ge : G'.get? e = none := g2 e (by simp)
    have old : ∀ b o, hp.get? b = some o → G'.get? b = some o := fun b o q => (gk b (Nat.ne_of_lt (Nat.lt_of_lt_of_le (Heap.lt_size q) M.new))).trans (M.keep b o q)
    have ob : ObjOk X.prog X.w (upd H1 d (.xd [(("name" : Str), V.str z)])) G' d (.xd [(("name" : Str), V.str z)]) :=
      ⟨_, hns.at (fun o q => (gk d M.dne).trans q), fun f => relO_oor (v := V.str z) (v' := Value.str z tz) ⟨tz, rfl⟩ f⟩
    have J : Inv X pins σ (upd H1 d (.xd [(("name" : Str), V.str z)])) ⟨G', g, dr, tk', os⟩ := I1.laid (t' := tk') old M.dbig ob
    refine ⟨e, oe, fv, ⟨G', g, dr, tk', os⟩, _, .ref C, some d, rfl, J, fun b o q => ?_, ge, hoe, ⟨hc, hd⟩, hdat, h1, ?_, rfl, I1.bare, raises_own T.exC T.tyC, q1 d (I1.hok.fresh M.dbig)⟩
    · by_cases hb : b = e
      · have q' : G'.get? b = some o := q
        rw [hb, ge] at q'; cases q'
      · exact (gk b hb).symm.trans q
    · rw [upd_ne (Ne.symm M.dne)]
      exact I1.hok.fresh M.new
/-- raise OutOfRange(e) -/
def tRaiseOor (C : Addr) (W : WX) (ta : TA) : TS := fun _ σ H => tMkOor C ta σ H fun cls d H' => W cls d σ H'
theorem ps_raiseOor {a : Expr} {ta : TA} {W : WX} {p pos pos2 : Pos} {k : Nat} (hc : X.calm = true) (T : OorTxt X.prog X.K X.mg C fI) (hr : Room k X.A) (tk : Takes X W) (ha : PA X [a] ta) (hg : Gl X "OutOfRange" := by rfl)
    (he : starEach (a :: []) X.env = (false, eval a X.env) :: starEach [] X.env := by rfl) (hpl : (backTo pos (starEach [] X.env)).any (·.1) = false := by rfl) :
    PS X (.Raise (some (.Call (.Name "OutOfRange" p) [a] [] pos)) none pos2) (tRaiseOor C W ta) := ps_raise hc tk (pmk_oor T hr ha hg he hpl)
/-- n.name, n the exception that the suite holds (at a; its class cls, its dict d) -/
def tNameOor (C : Addr) (a : Addr) (cls : Value) (d : Option Addr) (te : TE) : TE := fun σ H Q => te σ H fun x H1 => x = .ref a ∧ cls = .ref C ∧ ∃ (dd : Addr) (v : V), d = some dd ∧ H1 dd = some (.xd [(("name" : Str), v)]) ∧ Q v H1
theorem pe_nameOor {a : Addr} {oe : Obj} {cls : Value} {d : Option Addr} {pn : List (Addr × Obj)} {e : Expr} {te : TE} {pos : Pos} (T : OorTxt X.prog X.K X.mg C fI) (hz : Zc cls d oe) (hf : ∃ vs, oe.data = .fields vs) (he : PE (X.suite a ((a, oe) :: pn)) e te)
    (hb : attributeBase e "name" X.env (eval e X.env) = eval e X.env := by rfl) :
    PE (X.suite a ((a, oe) :: pn)) (.Attribute e "name" pos) (tNameOor C a cls d te) := by
  refine ⟨fun pins s σ H Q I h => ?_⟩
  refine attr_of hb (thn (he.run pins s σ H _ I h) fun u s1 hh => ?_)
  obtain ⟨x, H1, I1, rx, ex, ec, dd, v, ed, ea, q⟩ := hh
  subst ex
  obtain rfl : u = Value.ref a := rx
  subst ec
  subst ed
  obtain ⟨ha, _⟩ := I1.pin (a, oe) (List.mem_append_left _ List.mem_cons_self)
  obtain ⟨vs, hd⟩ := hf
  have hx : ObjOk X.prog X.w H1 s1.heap dd (.xd [(("name" : Str), v)]) := I1.hok dd _ ea
  obtain ⟨mA, hns, hr⟩ := hx
  obtain ⟨od, ho, hl⟩ := lookIn_ns hns
  have l : List.lookup ("name" : Str) [(("name" : Str), v)] = some v := by simp [List.lookup]
  obtain ⟨u, hu, ru⟩ := RelO.some_of (v := v) (o := mA "name") (by rw [← l]; exact hr "name")
  have J : PySem.W.InstAt s1.heap a oe C (some od) := ⟨ha, hz.1, by unfold PySem.W.notCls; rw [hd] <;> rfl, by rw [hz.2]; exact ho⟩
  exact HandSPX.exc_get I1.kIn J T.ga T.gg T.exC (PySem.W.findObj_own T.hdC T.noN rfl (by rw [hl, hu])) (handed_of ru) ⟨v, H1, I1.tok _, ru, q⟩
end
end Pg
namespace Pg
open PySem PySem.Spec PyProof.Rows L2
/-- a callee that may raise -/
def CalX (P : Program) (w : World) (K : PySem.W.Frag) (mg : Str → Option Value) (base : Heap) (x : Str) (k : Nat) (ps : List Str) (sp : Sp) : Prop :=
  ∃ f fd, FnOk P w K mg base (L2.CX P w) k f fd ps sp ∧ Binds K fd ps [] ∧ mg x = some (.ref f) ∧ PySem.W.keepIn K (.ref f) = true
section
variable {X : Cx} {k : Nat} {x : Str} {ps : List Str} {sp : Sp} {p pos : Pos} {e : Expr} {es : List Expr} {t : TA} {E : L2.St → XK}
theorem pe_calX (C : CalX X.prog X.w X.K X.mg X.base x k ps sp) (hr : Room k X.A) (hg : Gl X x) (hx : ∀ σ, PassesAt (L2.CX X.prog X.w) X σ (E σ)) (ha : PA X (e :: es) t) (hdb : (x == ("__debug__" : Str)) = false := by decide)
    (he : starEach (e :: es) X.env = (false, eval e X.env) :: starEach es X.env := by rfl) (hpl : (backTo pos (starEach es X.env)).any (·.1) = false := by rfl) :
    PE X (.Call (.Name x p) (e :: es) [] pos) (tCallS sp E t) := by
  obtain ⟨_, _, F, b, g, kp⟩ := C
  exact pe_callS F hr hg g kp b hx ha hdb he hpl
end
end Pg
namespace Pg
open PySem PySem.Spec PyProof.Rows L2
/-- an error of a class is what its own name names -/
theorem exm_self {K : PySem.W.Frag} {S : Addr} (h1 : PySem.W.subIn K (.ref S) (.type "BaseException") = some true) (h2 : PySem.W.isClsIn K S = true) (h3 : PySem.W.typeIn K (.ref S) = some (.type "type")) (h4 : PySem.W.subIn K (.ref S) (.ref S) = some true) :
    PySem.W.exmOne K (.ref S) (.ref S) = some true := by
  have e1 : (PySem.W.subIn K (.ref S) (.type "BaseException") == some true) = true := by rw [h1] <;> rfl
  have e2 : ((PySem.W.clsIn K S).isSome && PySem.W.typeIn K (.ref S) == some (.type "type")) = true := by
    have h2' : (PySem.W.clsIn K S).isSome = true := h2
    rw [h2', h3] <;> rfl
  show (if (PySem.W.subIn K (.ref S) (.type "BaseException") == some true) = true then (if ((PySem.W.clsIn K S).isSome && PySem.W.typeIn K (.ref S) == some (.type "type")) = true then PySem.W.subIn K (.ref S) (.ref S) else none) else none) = some true
  rw [if_pos e1, if_pos e2]
  exact h4
end Pg

/-! Own classes by their names; data that no store reaches. -/
namespace Pg
open PySem PySem.Spec PyProof.Rows L2
/-- a method of the class at C, with all its arguments given -/
def CalM (P : Program) (w : World) (K : PySem.W.Frag) (mg : Str → Option Value) (base : Heap) (C : Addr) (m : Str) (k : Nat) (ps : List Str) (sp : Sp) : Prop :=
  Cls K C ∧ ∃ f fd, FnOk P w K mg base CX0 k f fd ps sp ∧ Binds K fd ps [] ∧ Meth K C m f
/-- the class x at C, made by an __init__ of that promise -/
def CalK (P : Program) (w : World) (K : PySem.W.Frag) (mg : Str → Option Value) (base : Heap) (x : Str) (C : Addr) (k : Nat) (ps : List Str) (sp : Sp) : Prop :=
  mg x = some (.ref C) ∧ ∃ f fd, Mk K C f ∧ FnOk P w K mg base CX0 k f fd ps sp ∧ Binds K fd ps []
section
variable {X : Cx} {C : Addr} {k : Nat} {m x : Str} {ps : List Str} {sp : Sp} {o e : Expr} {es : List Expr} {to : TE} {t : TA} {apos pos p : Pos}
theorem pe_calM {pl : Sem Bool} (M : CalM X.prog X.w X.K X.mg X.base C m k ps sp) (hr : Room k X.A) (ho : PE X o to) (ha : PA X (e :: es) t)
    (hst : starEach (e :: es) X.env = (false, eval e X.env) :: starEach es X.env := by rfl) (hpl : (backTo pos (starEach es X.env)).any (·.1) = false := by rfl)
    (ht : eval (.Call (.Attribute o m apos) (e :: es) [] pos) X.env = (do
      let ov ← eval o X.env
      standAt apos.atName
      let (f, first) ← holding [ov] (getMethod ov m pl)
      callWith pos f first (backTo pos (starEach (e :: es) X.env)) (backToKw pos (keywordEach [] X.env))) := by rfl) :
    PE X (.Call (.Attribute o m apos) (e :: es) [] pos) (tMeth C m sp [] E0 to t) := by
  obtain ⟨c, f, fd, F, b, h⟩ := M
  exact pe_meth ho c h F hr b .nil pass0 ha hst hpl ht
theorem pe_calM0 {pl : Sem Bool} (M : CalM X.prog X.w X.K X.mg X.base C m k ps sp) (hr : Room k X.A) (ho : PE X o to)
    (ht : eval (.Call (.Attribute o m apos) [] [] pos) X.env = (do
      let ov ← eval o X.env
      standAt apos.atName
      let (f, first) ← holding [ov] (getMethod ov m pl)
      callWith pos f first (backTo pos (starEach [] X.env)) (backToKw pos (keywordEach [] X.env))) := by rfl) :
    PE X (.Call (.Attribute o m apos) [] [] pos) (tMeth C m sp [] E0 to tNil) := by
  obtain ⟨c, f, fd, F, b, h⟩ := M
  exact pe_meth0 ho c h F hr b .nil pass0 ht
theorem pe_mk0 (M : CalK X.prog X.w X.K X.mg X.base x C k ps sp) (hr : Room (k + 1) X.A) (hg : Gl X x) (hdb : (x == ("__debug__" : Str)) = false := by decide) : PE X (.Call (.Name x p) [] [] pos) (tMake C sp [] E0 tNil) := by
  obtain ⟨g, f, fd, mk, F, b⟩ := M
  exact pe_make0 mk F hr hg g b .nil pass0 hdb
theorem pe_mkA (M : CalK X.prog X.w X.K X.mg X.base x C k ps sp) (hr : Room (k + 1) X.A) (hg : Gl X x) (ha : PA X (e :: es) t) (hdb : (x == ("__debug__" : Str)) = false := by decide)
    (he : starEach (e :: es) X.env = (false, eval e X.env) :: starEach es X.env := by rfl) (hpl : (backTo pos (starEach es X.env)).any (·.1) = false := by rfl) :
    PE X (.Call (.Name x p) (e :: es) [] pos) (tMake C sp [] E0 t) := by
  obtain ⟨g, f, fd, mk, F, b⟩ := M
  exact pe_make mk F hr hg g b .nil pass0 ha hdb he hpl
end
theorem same_seqT {K : PySem.W.Frag} {H H' : Hp} {a : Addr} {xs : List V} (e : Same H H') (h : SqT K H a xs) : SqT K H' a xs := by
  rcases h with (h | ⟨o, h⟩) | h
  · exact .inl (.inl (e _ _ h))
  · exact .inl (.inr ⟨o, e _ _ h⟩)
  · exact .inr h
/-! ### data of tuples, texts, numbers: no store reaches it -/
/-- all tuples are as they were -/
def KeepT (K : PySem.W.Frag) (H H' : Hp) : Prop := ∀ a xs, SqT K H a xs → SqT K H' a xs
theorem Same.keepT {K : PySem.W.Frag} {H H' : Hp} (e : Same H H') : KeepT K H H' := fun _ _ h => same_seqT e h
theorem KeepT.trans {K : PySem.W.Frag} {H H1 H2 : Hp} (a : KeepT K H H1) (b : KeepT K H1 H2) : KeepT K H H2 := fun c xs h => b c xs (a c xs h)
/-- a store at an object that is no tuple -/
theorem KeepT.upd {K : PySem.W.Frag} {H : Hp} {p : Addr} {o : HO} (no : ∀ xs, H p ≠ some (.tup xs)) (nf : ∀ b xs, H p ≠ some (.frz b (.tup xs))) : KeepT K H (upd H p o) := by
  rintro a xs ((h | ⟨b, h⟩) | h)
  · exact .inl (.inl (by rw [upd_ne (by rintro rfl; exact no _ h)]; exact h))
  · exact .inl (.inr ⟨b, by rw [upd_ne (by rintro rfl; exact nf _ _ h)]; exact h⟩)
  · exact .inr h
mutual
def noL : PyData → Bool
  | .tuple ds => noLAll ds
  | .list _ => false
  | .dict _ => false
  | _ => true
def noLAll : List PyData → Bool
  | [] => true
  | d :: ds => noL d && noLAll ds
end
mutual
theorem Dp.keepT {K : PySem.W.Frag} {H H' : Hp} (k : KeepT K H H') : ∀ (d : PyData) (v : V), noL d = true → Dp K H v d → Dp K H' v d
  | .none, _, _, h => by cases h; exact .non
  | .bool b, _, _, h => by cases h; exact .bl b
  | .int i, _, _, h => by cases h; exact .int i
  | .str x, _, _, h => by cases h; exact .str x
  | .tuple ds, _, n, h => by
    cases h with
    | tup hs ha => exact .tup (k _ _ hs) (DpAll.keepT k ds _ n ha)
  | .list _, _, n, _ => by cases n
  | .dict _, _, n, _ => by cases n
theorem DpAll.keepT {K : PySem.W.Frag} {H H' : Hp} (k : KeepT K H H') : ∀ (ds : List PyData) (vs : List V), noLAll ds = true → DpAll K H vs ds → DpAll K H' vs ds
  | [], _, _, h => by cases h; exact .nil
  | d :: ds, _, n, h => by
    have n' : noL d = true ∧ noLAll ds = true := Bool.and_eq_true_iff.mp n
    cases h with
    | cons h1 h2 => exact .cons (Dp.keepT k d _ n'.1 h1) (DpAll.keepT k ds _ n'.2 h2)
end
/-! no truth value: equal as values is equal as data -/
mutual
def noB : PyData → Bool
  | .tuple ds => noBAll ds
  | .list ds => noBAll ds
  | .bool _ => false
  | .dict _ => false
  | _ => true
def noBAll : List PyData → Bool
  | [] => true
  | d :: ds => noB d && noBAll ds
end
mutual
theorem eqv_iff : ∀ (d e : PyData), noB d = true → noB e = true → (PyData.eqv d e = true ↔ d = e)
  | .none, e, _, n2 => by cases e <;> simp_all [PyData.eqv, noB]
  | .int i, e, _, n2 => by cases e <;> simp_all [PyData.eqv, noB]
  | .str x, e, _, n2 => by cases e <;> simp_all [PyData.eqv, noB]
  | .tuple ds, e, n1, n2 => by
    cases e with
    | tuple es =>
      rw [PyData.eqv, eqvAll_iff ds es n1 n2]
      exact ⟨fun h => by rw [h], fun h => PyData.tuple.inj h⟩
    | _ => simp_all [PyData.eqv, noB]
  | .list ds, e, n1, n2 => by
    cases e with
    | list es =>
      rw [PyData.eqv, eqvAll_iff ds es n1 n2]
      exact ⟨fun h => by rw [h], fun h => PyData.list.inj h⟩
    | _ => simp_all [PyData.eqv, noB]
  | .bool _, _, n1, _ => by cases n1
  | .dict _, _, n1, _ => by cases n1
theorem eqvAll_iff : ∀ (ds es : List PyData), noBAll ds = true → noBAll es = true → (PyData.eqvAll ds es = true ↔ ds = es)
  | [], [], _, _ => by simp [PyData.eqvAll]
  | [], _ :: _, _, _ => by simp [PyData.eqvAll]
  | _ :: _, [], _, _ => by simp [PyData.eqvAll]
  | d :: ds, e :: es, n1, n2 => by
    have n1' : noB d = true ∧ noBAll ds = true := Bool.and_eq_true_iff.mp n1
    have n2' : noB e = true ∧ noBAll es = true := Bool.and_eq_true_iff.mp n2
    rw [PyData.eqvAll, Bool.and_eq_true, eqv_iff d e n1'.1 n2'.1, eqvAll_iff ds es n1'.2 n2'.2]
    exact ⟨fun ⟨a, b⟩ => by rw [a, b], fun h => List.cons.inj h⟩
end
end Pg

/-! Data of a known size: what repr and == ask of it, put together from its parts. -/
namespace Pg
open PySem PySem.Spec PyProof.Rows L2
/-- at most D deep, at most M signs and parts -/
structure Sz (D M : Nat) (d : PyData) : Prop where
  ok : d.showable = true
  cl : d.canLay0 = true
  dep : d.depth ≤ D
  lv : d.leavesShort 13 = true
  bk : d.bulk ≤ M
structure SzA (D M : Nat) (ds : List PyData) : Prop where
  ok : PyData.showableAll ds = true
  cl : PyData.canLayAll0 ds = true
  dep : PyData.depthAll ds ≤ D
  lv : PyData.leavesShortAll 13 ds = true
  bk : PyData.bulkAll ds ≤ M
theorem Sz.mono {D D' M M' : Nat} {d : PyData} (s : Sz D M d) (h1 : D ≤ D') (h2 : M ≤ M') : Sz D' M' d := ⟨s.ok, s.cl, Nat.le_trans s.dep h1, s.lv, Nat.le_trans s.bk h2⟩
theorem SzA.mono {D D' M M' : Nat} {d : List PyData} (s : SzA D M d) (h1 : D ≤ D') (h2 : M ≤ M') : SzA D' M' d := ⟨s.ok, s.cl, Nat.le_trans s.dep h1, s.lv, Nat.le_trans s.bk h2⟩
theorem Sz.none : Sz 0 0 .none := ⟨rfl, rfl, Nat.le_refl _, rfl, Nat.le_refl _⟩
theorem Sz.bool (b : Bool) : Sz 0 0 (.bool b) := ⟨rfl, rfl, Nat.le_refl _, rfl, Nat.le_refl _⟩
theorem Sz.int {i : Int} (h1 : -999999999999 ≤ i) (h2 : i ≤ 999999999999) : Sz 0 0 (.int i) := by
  refine ⟨?_, rfl, Nat.le_refl _, ?_, Nat.le_refl _⟩
  · simp only [PyData.showable]
    refine decide_eq_true ?_
    by_cases z : i.natAbs = 0
    · rw [z]
      decide
    · refine (Nat.log2_lt z).mpr (Nat.lt_of_lt_of_le (show i.natAbs < 2 ^ 40 by omega) (Nat.pow_le_pow_right (n := 2) (by decide) (by decide)))
  · simp only [PyData.leavesShort]
    exact decide_eq_true (PyData.shown_int_le2 h1 h2)
theorem Sz.str {z : Str} {M : Nat} (c : Codes z) (l : z.length ≤ M) : Sz 0 M (.str z) := by
  refine ⟨rfl, ?_, Nat.le_refl _, ?_, ?_⟩
  · simp only [PyData.canLay0]
    exact c.ok
  · simp only [PyData.leavesShort]
    rw [List.all_eq_true]
    intro x hx
    have := c x hx
    exact decide_eq_true (by omega)
  · simp only [PyData.bulk]
    exact l
theorem SzA.nil {D : Nat} : SzA D 0 [] := ⟨rfl, rfl, Nat.zero_le _, rfl, Nat.le_refl _⟩
theorem SzA.cons {D M N : Nat} {d : PyData} {ds : List PyData} (a : Sz D M d) (b : SzA D N ds) : SzA D (M + 1 + N) (d :: ds) := by
  refine ⟨?_, ?_, ?_, ?_, ?_⟩
  · simp only [PyData.showableAll, a.ok, b.ok, Bool.and_true]
  · simp only [PyData.canLayAll0, a.cl, b.cl, Bool.and_true]
  · simp only [PyData.depthAll]
    exact Nat.max_le.mpr ⟨a.dep, b.dep⟩
  · simp only [PyData.leavesShortAll, a.lv, b.lv, Bool.and_true]
  · simp only [PyData.bulkAll]
    have := a.bk
    have := b.bk
    omega
theorem SzA.all {D M n : Nat} : ∀ {ds : List PyData}, (∀ d ∈ ds, Sz D M d) → ds.length ≤ n → SzA D (n * (M + 1)) ds
  | [], _, _ => SzA.nil.mono (Nat.le_refl _) (Nat.zero_le _)
  | d :: ds, h, l => by
    obtain ⟨n, rfl⟩ : ∃ m, n = m + 1 := ⟨n - 1, by rw [List.length_cons] at l; omega⟩
    have ih := SzA.all (n := n) (fun x hx => h x (List.mem_cons_of_mem _ hx)) (by rw [List.length_cons] at l; omega)
    refine (SzA.cons (h d List.mem_cons_self) ih).mono (Nat.le_refl _) ?_
    rw [Nat.succ_mul]
    omega
theorem SzA.tup {D M : Nat} {ds : List PyData} (a : SzA D M ds) : Sz (D + 1) M (.tuple ds) := by
  refine ⟨?_, ?_, ?_, ?_, ?_⟩
  · simp only [PyData.showable, a.ok]
  · simp only [PyData.canLay0, a.cl]
  · simp only [PyData.depth]
    exact Nat.succ_le_succ a.dep
  · simp only [PyData.leavesShort, a.lv]
  · simp only [PyData.bulk]
    exact a.bk
theorem SzA.lst {D M : Nat} {ds : List PyData} (a : SzA D M ds) : Sz (D + 1) M (.list ds) := by
  refine ⟨?_, ?_, ?_, ?_, ?_⟩
  · simp only [PyData.showable, a.ok]
  · simp only [PyData.canLay0, a.cl]
  · simp only [PyData.depth]
    exact Nat.succ_le_succ a.dep
  · simp only [PyData.leavesShort, a.lv]
  · simp only [PyData.bulk]
    exact a.bk
theorem Sz.nd {D M : Nat} {d : PyData} (s : Sz D M d) : d.hasDict = false := PyData.hasDict_of_canLay _ s.cl
theorem Sz.fits {D M : Nat} {d : PyData} (s : Sz D M d) (h : M ≤ 2 ^ 20) : d.shown.length ≤ sizeLine := PyData.shown_fits_bulk (B := 13) (by decide) (by decide) s.lv (Nat.le_trans s.bk h)
theorem Sz.shaped {D M : Nat} {d : PyData} (s : Sz D M d) (h : D ≤ 64) : SeqAt.shaped d = true := by
  unfold SeqAt.shaped
  rw [s.cl, Bool.true_and]
  exact decide_eq_true (Nat.le_trans s.dep h)
/-- .. of tuples, texts, numbers, None alone -/
structure Pd (D M : Nat) (d : PyData) : Prop where
  sz : Sz D M d
  nl : noL d = true
  nb : noB d = true
structure PdA (D M : Nat) (ds : List PyData) : Prop where
  sz : SzA D M ds
  nl : noLAll ds = true
  nb : noBAll ds = true
theorem Pd.mono {D D' M M' : Nat} {d : PyData} (s : Pd D M d) (h1 : D ≤ D') (h2 : M ≤ M') : Pd D' M' d := ⟨s.sz.mono h1 h2, s.nl, s.nb⟩
theorem PdA.mono {D D' M M' : Nat} {d : List PyData} (s : PdA D M d) (h1 : D ≤ D') (h2 : M ≤ M') : PdA D' M' d := ⟨s.sz.mono h1 h2, s.nl, s.nb⟩
theorem Pd.none : Pd 0 0 .none := ⟨Sz.none, rfl, rfl⟩
theorem Pd.int {i : Int} (h1 : -999999999999 ≤ i) (h2 : i ≤ 999999999999) : Pd 0 0 (.int i) := ⟨Sz.int h1 h2, rfl, rfl⟩
theorem Pd.str {z : Str} {M : Nat} (c : Codes z) (l : z.length ≤ M) : Pd 0 M (.str z) := ⟨Sz.str c l, rfl, rfl⟩
theorem PdA.nil {D : Nat} : PdA D 0 [] := ⟨SzA.nil, rfl, rfl⟩
theorem PdA.cons {D M N : Nat} {d : PyData} {ds : List PyData} (a : Pd D M d) (b : PdA D N ds) : PdA D (M + 1 + N) (d :: ds) :=
  ⟨SzA.cons a.sz b.sz, by simp only [noLAll, a.nl, b.nl, Bool.and_true], by simp only [noBAll, a.nb, b.nb, Bool.and_true]⟩
theorem PdA.all {D M n : Nat} {ds : List PyData} (h : ∀ d ∈ ds, Pd D M d) (l : ds.length ≤ n) : PdA D (n * (M + 1)) ds := by
  refine ⟨SzA.all (fun d hd => (h d hd).sz) l, ?_, ?_⟩
  · clear l
    induction ds with
    | nil => rfl
    | cons d r ih =>
      rw [noLAll, (h d List.mem_cons_self).nl, ih fun x hx => h x (List.mem_cons_of_mem _ hx)]
      rfl
  · clear l
    induction ds with
    | nil => rfl
    | cons d r ih =>
      rw [noBAll, (h d List.mem_cons_self).nb, ih fun x hx => h x (List.mem_cons_of_mem _ hx)]
      rfl
theorem PdA.tup {D M : Nat} {ds : List PyData} (a : PdA D M ds) : Pd (D + 1) M (.tuple ds) := ⟨a.sz.tup, by simp only [noL, a.nl], by simp only [noB, a.nb]⟩
theorem PdA.mem {D M : Nat} : ∀ {ds : List PyData}, PdA D M ds → ∀ d ∈ ds, Pd D M d
  | x :: ds, a, d, hd => by
    obtain ⟨⟨a1, a2, a3, a4, a5⟩, b1, b2⟩ := a
    have a1' : x.showable = true ∧ PyData.showableAll ds = true := Bool.and_eq_true_iff.mp a1
    have a2' : x.canLay0 = true ∧ PyData.canLayAll0 ds = true := Bool.and_eq_true_iff.mp a2
    have a3' : x.depth ≤ D ∧ PyData.depthAll ds ≤ D := Nat.max_le.mp a3
    have a4' : x.leavesShort 13 = true ∧ PyData.leavesShortAll 13 ds = true := Bool.and_eq_true_iff.mp a4
    have a5' : x.bulk + 1 + PyData.bulkAll ds ≤ M := a5
    have b1' : noL x = true ∧ noLAll ds = true := Bool.and_eq_true_iff.mp b1
    have b2' : noB x = true ∧ noBAll ds = true := Bool.and_eq_true_iff.mp b2
    rcases List.mem_cons.mp hd with rfl | hd
    · exact ⟨⟨a1'.1, a2'.1, a3'.1, a4'.1, by omega⟩, b1'.1, b2'.1⟩
    · exact PdA.mem (ds := ds) ⟨⟨a1'.2, a2'.2, a3'.2, a4'.2, by omega⟩, b1'.2, b2'.2⟩ d hd
theorem Pd.parts {D M : Nat} {ds : List PyData} (p : Pd D M (.tuple ds)) : PdA D M ds := by
  obtain ⟨⟨a1, a2, a3, a4, a5⟩, b1, b2⟩ := p
  have a3' : PyData.depthAll ds + 1 ≤ D := a3
  exact ⟨⟨a1, a2, by omega, a4, a5⟩, b1, b2⟩
theorem Pd.keep {D M : Nat} {K : PySem.W.Frag} {H H' : Hp} {v : V} {d : PyData} (p : Pd D M d) (k : KeepT K H H') (h : Dp K H v d) : Dp K H' v d := Dp.keepT k d v p.nl h
theorem PdA.keep {D M : Nat} {K : PySem.W.Frag} {H H' : Hp} {v : List V} {d : List PyData} (p : PdA D M d) (k : KeepT K H H') (h : DpAll K H v d) : DpAll K H' v d := DpAll.keepT k d v p.nl h
theorem Pd.eqv {D M D' M' : Nat} {d e : PyData} (a : Pd D M d) (b : Pd D' M' e) : PyData.eqv d e = true ↔ d = e := eqv_iff d e a.nb b.nb
theorem dpAll_len {K : PySem.W.Frag} {H : Hp} : ∀ {vs : List V} {ds : List PyData}, DpAll K H vs ds → vs.length = ds.length
  | _, _, .nil => rfl
  | _, _, .cons _ t => congrArg (· + 1) (dpAll_len t)
theorem dpAll_get {K : PySem.W.Frag} {H : Hp} : ∀ {vs : List V} {ds : List PyData} {i : Nat} {d : PyData}, DpAll K H vs ds → ds[i]? = some d → ∃ v, vs[i]? = some v ∧ Dp K H v d
  | _, _, 0, _, .cons h _, e => ⟨_, rfl, by rw [← Option.some.inj e]; exact h⟩
  | _, _, i + 1, _, .cons _ t, e => dpAll_get (i := i) t e
theorem dpAll_get' {K : PySem.W.Frag} {H : Hp} : ∀ {vs : List V} {ds : List PyData} {i : Nat} {v : V}, DpAll K H vs ds → vs[i]? = some v → ∃ d, ds[i]? = some d ∧ Dp K H v d
  | _, _, 0, _, .cons h _, e => ⟨_, rfl, by rw [← Option.some.inj e]; exact h⟩
  | _, _, i + 1, _, .cons _ t, e => dpAll_get' (i := i) t e
theorem dpAll_app {K : PySem.W.Frag} {H : Hp} : ∀ {vs ws : List V} {ds es : List PyData}, DpAll K H vs ds → DpAll K H ws es → DpAll K H (vs ++ ws) (ds ++ es)
  | _, _, _, _, .nil, h => h
  | _, _, _, _, .cons a t, h => .cons a (dpAll_app t h)
theorem dpAll_take {K : PySem.W.Frag} {H : Hp} : ∀ {vs : List V} {ds : List PyData} (n : Nat), DpAll K H vs ds → DpAll K H (vs.take n) (ds.take n)
  | _, _, 0, _ => .nil
  | _, _, _ + 1, .nil => .nil
  | _, _, n + 1, .cons a t => .cons a (dpAll_take n t)
/-- a list of data -/
def LAt (K : PySem.W.Frag) (H : Hp) (l : Addr) (ds : List PyData) : Prop := ∃ vs, H l = some (.lst vs) ∧ DpAll K H vs ds
theorem LAt.keep {D M : Nat} {K : PySem.W.Frag} {H H' : Hp} {l : Addr} {ds : List PyData} (a : LAt K H l ds) (p : PdA D M ds) (k : KeepT K H H') (e : H' l = H l) : LAt K H' l ds :=
  let ⟨vs, h, d⟩ := a
  ⟨vs, e.trans h, p.keep k d⟩
theorem LAt.same {D M : Nat} {K : PySem.W.Frag} {H H' : Hp} {l : Addr} {ds : List PyData} (a : LAt K H l ds) (p : PdA D M ds) (s : Same H H') : LAt K H' l ds :=
  let ⟨vs, h, d⟩ := a
  ⟨vs, s _ _ h, p.keep (Same.keepT s) d⟩
theorem LAt.dp {K : PySem.W.Frag} {H : Hp} {l : Addr} {ds : List PyData} (a : LAt K H l ds) : Dp K H (.ref l) (.list ds) :=
  let ⟨_, h, d⟩ := a
  .lst (.inl (.inl h)) d
/-! ### a dict comprehension over the items of a dict that is locked meanwhile -/
theorem dc_items {d : Addr} {o : Obj} {kvs : List (Key × V)} {g : TG} {tt : TT} {tk tv : TE} {vs : List Nat} {σ : L2.St} {H1 : Hp} {D : Addr} {Qd : Hp → Prop} (Pv : Nat → Hp → Prop) (h0 : Pv 0 (upd H1 D (.dK [])))
    (hl : ∀ i H, i ≤ kvs.length → Pv i H → H d = some (.frz o (.dK kvs)))
    (hs : ∀ i k v T H, kvs[i]? = some (k, v) → Pv i H → H T = none → g (.ref T) (wipe σ vs) (upd H T (.tup [kV k, v])) fun σ2 H2 => wipe σ2 vs = wipe σ vs ∧ tt σ2 H2 fun b H3 =>
      if b = true then tk σ2 H3 fun y H4 => tv σ2 H4 fun z H5 => ∃ kws k, y = kV k ∧ H5 D = some (.dK kws) ∧ kws.length < sizeLine ∧ Pv (i + 1) (upd H5 D (.dK (putK kws k z))) else Pv (i + 1) H3) (hd : ∀ H, Pv kvs.length H → Qd H) :
    ∃ W : Nat → Nat → Hp → Prop, (∃ m, W 0 m (upd H1 D (.dK []))) ∧ ∀ i m H, W i m H →
      ((Iti d o kvs).stop i H ∧ Qd H) ∨ ((Iti d o kvs).go i H ∧ ∃ Nx : Hp → Prop, (∀ H', Nx H' → ∃ m', m' < m ∧ W (i + 1) m' H') ∧ ∀ x H', (Iti d o kvs).yld i H x H' → g x (wipe σ vs) H' fun σ2 H2 => wipe σ2 vs = wipe σ vs ∧ tt σ2 H2 fun b H3 =>
        if b = true then tk σ2 H3 fun y H4 => tv σ2 H4 fun z H5 => ∃ kws k, y = kV k ∧ H5 D = some (.dK kws) ∧ kws.length < sizeLine ∧ Nx (upd H5 D (.dK (putK kws k z))) else Nx H3) := by
  refine ⟨fun i m H => i + m = kvs.length ∧ Pv i H, ⟨kvs.length, by omega, h0⟩, ?_⟩
  rintro i m H ⟨e, p⟩
  have lk := hl i H (by omega) p
  by_cases lt : i < kvs.length
  · refine Or.inr ⟨⟨lk, lt⟩, Pv (i + 1), fun H' q => ⟨m - 1, by omega, by omega, q⟩, ?_⟩
    rintro x H' ⟨T, k, v, hkv, rfl, nT, rfl⟩
    exact hs i k v T H hkv p nT
  · obtain rfl : i = kvs.length := by omega
    exact Or.inl ⟨⟨lk, Nat.le_refl _⟩, hd H p⟩
/-! ### small things -/
/-- within a comprehension: the written part is the def's own -/
theorem op_eqDK {X : Cx} {K : PySem.W.Frag} (h : X.K = K) (hu : X.A.units + 64 < cLine) : OpR X (compareOp .Eq) (rEqD K) := h ▸ op_eqD hu
theorem op_neDK {X : Cx} {K : PySem.W.Frag} (h : X.K = K) (hu : X.A.units + 64 < cLine) : OpR X (compareOp .NotEq) (rNeD K) := h ▸ op_neD hu
theorem op_in_seqK {X : Cx} {K : PySem.W.Frag} (h : X.K = K) : OpR X (compareOp .In) (rIn K false) := h ▸ op_in_seq
theorem pg_tupK {X : Cx} {K : PySem.W.Frag} {es : List Expr} {k : Nat} {t : TGs} {n : Nat} {pos : Pos} (e : X.K = K) (hc : X.calm = true) (h : PGs X es t)
    (hn : (assignEach es X.env).length = n := by rfl) (hst : (assignEach es X.env).findIdx? (·.1) = none := by rfl) : PG X (.Tuple es k pos) (gTup K n t) := e ▸ pg_tup hc h hn hst
theorem op_notIn_seqK {X : Cx} {K : PySem.W.Frag} (h : X.K = K) : OpR X (compareOp .NotIn) (rIn K true) := h ▸ op_notIn_seq
theorem inV_str (x : Str) (ys : List Str) : inV (.str x) (ys.map V.str) = decide (x ∈ ys) := by
  unfold inV
  rw [List.any_map, Bool.eq_iff_iff, List.any_eq_true, decide_eq_true_eq]
  constructor
  · rintro ⟨y, hy, e⟩
    have e' : (y == x) = true := e
    rw [← eq_of_beq e']
    exact hy
  · intro h
    exact ⟨x, h, (beq_self_eq_true x : (x == x) = true)⟩
theorem flat_str (ys : List Str) : (ys.map V.str).all flatV = true := by
  rw [List.all_map, List.all_eq_true]
  intro y _
  rfl
theorem cutV_up (xs : List V) (j : Nat) : cutV xs none (some (j : Int)) = xs.take j := by
  unfold cutV
  rw [HT.sIx_none, show HT.sIx xs.length xs.length (some (j : Int)) = min j xs.length from HT.sIx_nat xs.length xs.length j]
  show List.take (min j xs.length - 0) (List.drop 0 xs) = _
  rw [List.drop_zero, Nat.sub_zero, List.take_eq_take_iff]
  omega
theorem putS_app {β : Type} (kvs : List (Str × β)) (k : Str) (v : β) (h : k ∉ kvs.map (·.1)) : putS kvs k v = kvs ++ [(k, v)] := by
  apply putS_new
  rw [get_none.mpr h]
  rfl
/-- a list stays where a store goes to something else -/
theorem sqL_upd {K : PySem.W.Frag} {H : Hp} {p a : Addr} {o : HO} {xs : List V} (no : ∀ xs, H p ≠ some (.lst xs)) (nf : ∀ b xs, H p ≠ some (.frz b (.lst xs))) (h : SqL K H a xs) : SqL K (upd H p o) a xs := by
  rcases h with (h | ⟨b, h⟩) | h
  · exact .inl (.inl (by rw [upd_ne (by rintro rfl; exact no _ h)]; exact h))
  · exact .inl (.inr ⟨b, by rw [upd_ne (by rintro rfl; exact nf _ _ h)]; exact h⟩)
  · exact .inr h
end Pg

/-! Rows of numbers, cut and put together; comprehensions that work on values alone; a module's text. -/
namespace Pg
open PySem PySem.Spec PyProof.Rows L2

theorem pe_cS {X : Cx} {x z : Str} {pos : Pos} (hg : Gl X x) (hm : ∃ t, X.mg x = some (.str z t)) (hd : (x == ("__debug__" : Str)) = false := by decide) : PE X (.Name x pos) (tC (.str z)) := by
  obtain ⟨t, e⟩ := hm
  exact pe_glob hg e ⟨t, rfl⟩ hd
/-- numbers that are not below 0 -/
def vN (bs : List Nat) : List V := bs.map fun n => V.int (n : Nat)
theorem vN_len (bs : List Nat) : (vN bs).length = bs.length := List.length_map _
theorem vN_app (a b : List Nat) : vN (a ++ b) = vN a ++ vN b := List.map_append
theorem vN_take (a : List Nat) (n : Nat) : vN (a.take n) = (vN a).take n := List.map_take
theorem vN_drop (a : List Nat) (n : Nat) : vN (a.drop n) = (vN a).drop n := List.map_drop
theorem vN_set (a : List Nat) (n x : Nat) : vN (a.set n x) = (vN a).set n (.int (x : Nat)) := List.map_set
theorem vN_rep (n x : Nat) : vN (List.replicate n x) = List.replicate n (.int (x : Nat)) := List.map_replicate
theorem vN_get {bs : List Nat} {i n : Nat} (h : bs[i]? = some n) : (vN bs)[i]? = some (V.int (n : Nat)) := by
  unfold vN
  rw [List.getElem?_map, h]
  rfl
theorem vN_get' {bs : List Nat} {i : Nat} {x : V} (h : (vN bs)[i]? = some x) : ∃ n, bs[i]? = some n ∧ x = V.int (n : Nat) := by
  unfold vN at h
  rw [List.getElem?_map] at h
  cases e : bs[i]? with
  | none => rw [e] at h; cases h
  | some n => rw [e] at h; exact ⟨n, rfl, (Option.some.inj h).symm⟩
theorem dpAll_vN {K : PySem.W.Frag} {H : Hp} : ∀ bs : List Nat, DpAll K H (vN bs) (bs.map fun n => PyData.int (n : Nat))
  | [] => .nil
  | _ :: r => .cons (.int _) (dpAll_vN r)
theorem dp_vN {K : PySem.W.Frag} {H : Hp} {l : Addr} {bs : List Nat} (h : H l = some (.lst (vN bs))) : Dp K H (.ref l) (.list (bs.map fun n => PyData.int (n : Nat))) := .lst (.inl (.inl h)) (dpAll_vN bs)
theorem sz_vN {bs : List Nat} {n : Nat} (h : ∀ b ∈ bs, b ≤ 999999999999) (l : bs.length ≤ n) : Sz 1 (n * 1) (.list (bs.map fun n => PyData.int (n : Nat))) := by
  refine (SzA.all (fun d hd => ?_) (by rw [List.length_map]; exact l)).lst
  obtain ⟨b, hb, rfl⟩ := List.mem_map.mp hd
  have := h b hb
  exact Sz.int (by omega) (by omega)
theorem noB_vN : ∀ bs : List Nat, noBAll (bs.map fun n => PyData.int (n : Nat)) = true
  | [] => rfl
  | b :: r => by
    show (noB _ && noBAll _) = true
    rw [show noB (.int (b : Nat)) = true from rfl, Bool.true_and]
    exact noB_vN r
theorem cut_nn (xs : List V) (a b : Nat) : cutV xs (some (a : Int)) (some (b : Int)) = (xs.drop a).take (b - a) := by
  unfold cutV
  rw [show HT.sIx xs.length 0 (some (a : Int)) = min a xs.length from HT.sIx_nat _ _ _, show HT.sIx xs.length xs.length (some (b : Int)) = min b xs.length from HT.sIx_nat _ _ _]
  by_cases h : a ≤ xs.length
  · rw [Nat.min_eq_left h, List.take_eq_take_iff, List.length_drop]
    omega
  · rw [List.drop_of_length_le (by omega), List.drop_of_length_le (i := a) (by omega), List.take_nil, List.take_nil]
theorem cut_n_ (xs : List V) (a : Nat) : cutV xs (some (a : Int)) none = xs.drop a := by
  unfold cutV
  rw [show HT.sIx xs.length 0 (some (a : Int)) = min a xs.length from HT.sIx_nat _ _ _, HT.sIx_none]
  by_cases h : a ≤ xs.length
  · rw [Nat.min_eq_left h]
    exact List.take_of_length_le (by rw [List.length_drop]; omega)
  · rw [List.drop_of_length_le (by omega), List.drop_of_length_le (i := a) (by omega), List.take_nil]
theorem cut_nm (xs : List V) (a : Nat) : cutV xs (some (a : Int)) (some (-1)) = (xs.drop a).take (xs.length - 1 - a) := by
  unfold cutV
  rw [show HT.sIx xs.length 0 (some (a : Int)) = min a xs.length from HT.sIx_nat _ _ _]
  have e : HT.sIx xs.length xs.length (some (-1)) = xs.length - 1 := by
    show (if (-1 : Int) < 0 then ((-1 : Int) + (xs.length : Int)).toNat else min (-1 : Int).toNat xs.length) = _
    rw [if_pos (by decide)]
    omega
  rw [e]
  by_cases h : a ≤ xs.length
  · rw [Nat.min_eq_left h]
  · rw [List.drop_of_length_le (by omega), List.drop_of_length_le (i := a) (by omega), List.take_nil, List.take_nil]
theorem at_last {xs : List V} {v : V} (h : xs.getLast? = some v) : atI xs (-1) = some v := by
  have ne : xs ≠ [] := by
    rintro rfl
    cases h
  have pos : 0 < xs.length := List.length_pos_iff.mpr ne
  unfold atI ixN
  rw [if_neg (by decide), if_pos (by omega)]
  show xs[((-1 : Int) + (xs.length : Int)).toNat]? = _
  rw [List.getLast?_eq_getElem?] at h
  rw [← h]
  congr 1
  omega
/-- a comprehension that makes each item anew from values alone -/
theorem lc_map {K : PySem.W.Frag} {a : Addr} {xs : List V} {g : TG} {tt : TT} {te : TE} {vs : List Nat} {σ : L2.St} {H1 : Hp} {D : Addr} {Qd : Hp → Prop} (fx : V → V) (nD : H1 D = none) (hl : SqL K H1 a xs) (few : xs.length < sizeLine)
    (hs : ∀ (i : Nat) (x : V) (H : Hp) (R : V → Hp → Prop) (S : Hp → Prop), xs[i]? = some x → Same H1 H → R (fx x) H →
      g x (wipe σ vs) H fun σ2 H2 => wipe σ2 vs = wipe σ vs ∧ tt σ2 H2 fun b H3 => if b = true then te σ2 H3 R else S H3) (hd : Qd (upd H1 D (.lst (xs.map fx)))) :
    ∃ W : Nat → Nat → Hp → Prop, (∃ m, W 0 m (upd H1 D (.lst []))) ∧ ∀ i m H, W i m H → ((Itl K a).stop i H ∧ Qd H) ∨
      ((Itl K a).go i H ∧ ∃ Nx : Hp → Prop, (∀ H', Nx H' → ∃ m', m' < m ∧ W (i + 1) m' H') ∧ ∀ x H', (Itl K a).yld i H x H' →
        g x (wipe σ vs) H' fun σ2 H2 => wipe σ2 vs = wipe σ vs ∧ tt σ2 H2 fun b H3 => if b = true then te σ2 H3 fun y H4 => ∃ acc, H4 D = some (.lst acc) ∧ acc.length < sizeLine ∧ Nx (upd H4 D (.lst (acc ++ [y]))) else Nx H3) := by
  have sm : ∀ {o : HO}, Same H1 (upd H1 D o) := fun {o} p x e => by
    rw [upd_ne (ne_of_none e nD)]
    exact e
  have kl : ∀ {o : HO}, SqL K (upd H1 D o) a xs := fun {o} => by
    rcases hl with (h | ⟨u, h⟩) | h
    · exact .inl (.inl (sm _ _ h))
    · exact .inl (.inr ⟨u, sm _ _ h⟩)
    · exact .inr h
  refine lc_list (K := K) (a := a) (xs := xs) (fun i H => H = upd H1 D (.lst ((xs.take i).map fx))) rfl (fun i H _ e => by rw [e]; exact kl) ?_ ?_
  · rintro i x H hx rfl
    refine hs i x _ _ _ hx sm ⟨_, upd_same, ?_, ?_⟩
    · rw [List.length_map, List.length_take]
      omega
    · rw [upd_upd, List.take_add_one, hx, List.map_append]
      rfl
  · rintro H rfl
    rw [List.take_length]
    exact hd
/-- .. of those that pass a test -/
theorem lc_filter {K : PySem.W.Frag} {a : Addr} {xs : List V} {g : TG} {tt : TT} {te : TE} {vs : List Nat} {σ : L2.St} {H1 : Hp} {D : Addr} {Qd : Hp → Prop} (px : V → Bool) (fx : V → V) (nD : H1 D = none) (hl : SqL K H1 a xs) (few : xs.length < sizeLine)
    (hs : ∀ (i : Nat) (x : V) (H : Hp) (R : V → Hp → Prop) (S : Hp → Prop), xs[i]? = some x → Same H1 H → (px x = true → R (fx x) H) → (px x = false → S H) →
      g x (wipe σ vs) H fun σ2 H2 => wipe σ2 vs = wipe σ vs ∧ tt σ2 H2 fun b H3 => if b = true then te σ2 H3 R else S H3) (hd : Qd (upd H1 D (.lst ((xs.filter px).map fx)))) :
    ∃ W : Nat → Nat → Hp → Prop, (∃ m, W 0 m (upd H1 D (.lst []))) ∧ ∀ i m H, W i m H → ((Itl K a).stop i H ∧ Qd H) ∨
      ((Itl K a).go i H ∧ ∃ Nx : Hp → Prop, (∀ H', Nx H' → ∃ m', m' < m ∧ W (i + 1) m' H') ∧ ∀ x H', (Itl K a).yld i H x H' →
        g x (wipe σ vs) H' fun σ2 H2 => wipe σ2 vs = wipe σ vs ∧ tt σ2 H2 fun b H3 => if b = true then te σ2 H3 fun y H4 => ∃ acc, H4 D = some (.lst acc) ∧ acc.length < sizeLine ∧ Nx (upd H4 D (.lst (acc ++ [y]))) else Nx H3) := by
  have sm : ∀ {o : HO}, Same H1 (upd H1 D o) := fun {o} p x e => by
    rw [upd_ne (ne_of_none e nD)]
    exact e
  have kl : ∀ {o : HO}, SqL K (upd H1 D o) a xs := fun {o} => by
    rcases hl with (h | ⟨u, h⟩) | h
    · exact .inl (.inl (sm _ _ h))
    · exact .inl (.inr ⟨u, sm _ _ h⟩)
    · exact .inr h
  refine lc_list (K := K) (a := a) (xs := xs) (fun i H => H = upd H1 D (.lst (((xs.take i).filter px).map fx))) rfl (fun i H _ e => by rw [e]; exact kl) ?_ ?_
  · rintro i x H hx rfl
    have nx : (xs.take (i + 1)).filter px = (xs.take i).filter px ++ [x].filter px := by
      rw [List.take_add_one, hx, List.filter_append]
      rfl
    refine hs i x _ _ _ hx sm (fun p => ⟨_, upd_same, ?_, ?_⟩) (fun p => ?_)
    · rw [List.length_map]
      have h1 := List.length_filter_le px (xs.take i)
      rw [List.length_take] at h1
      omega
    · rw [upd_upd, nx, List.filter_cons_of_pos p, List.map_append]
      rfl
    · rw [nx, List.filter_cons_of_neg (by simp [p]), List.filter_nil, List.append_nil]
  · rintro H rfl
    rw [List.take_length]
    exact hd
/-- a comprehension over a range that makes each item from values alone -/
theorem lc_rangeMap {lo : Int} {n : Nat} {g : TG} {tt : TT} {te : TE} {vs : List Nat} {σ : L2.St} {H1 : Hp} {D : Addr} {Qd : Hp → Prop} (fx : Nat → V) (nD : H1 D = none) (few : n < sizeLine)
    (hs : ∀ (i : Nat) (H : Hp) (R : V → Hp → Prop) (S : Hp → Prop), i < n → Same H1 H → R (fx i) H →
      g (.int (lo + i)) (wipe σ vs) H fun σ2 H2 => wipe σ2 vs = wipe σ vs ∧ tt σ2 H2 fun b H3 => if b = true then te σ2 H3 R else S H3) (hd : Qd (upd H1 D (.lst ((List.range n).map fx)))) :
    ∃ W : Nat → Nat → Hp → Prop, (∃ m, W 0 m (upd H1 D (.lst []))) ∧ ∀ i m H, W i m H → ((Itr lo n).stop i H ∧ Qd H) ∨
      ((Itr lo n).go i H ∧ ∃ Nx : Hp → Prop, (∀ H', Nx H' → ∃ m', m' < m ∧ W (i + 1) m' H') ∧ ∀ x H', (Itr lo n).yld i H x H' →
        g x (wipe σ vs) H' fun σ2 H2 => wipe σ2 vs = wipe σ vs ∧ tt σ2 H2 fun b H3 => if b = true then te σ2 H3 fun y H4 => ∃ acc, H4 D = some (.lst acc) ∧ acc.length < sizeLine ∧ Nx (upd H4 D (.lst (acc ++ [y]))) else Nx H3) := by
  have sm : ∀ {o : HO}, Same H1 (upd H1 D o) := fun {o} p x e => by
    rw [upd_ne (ne_of_none e nD)]
    exact e
  refine lc_range (lo := lo) (n := n) (fun i H => H = upd H1 D (.lst ((List.range i).map fx))) rfl ?_ ?_
  · rintro i H hi rfl
    refine hs i _ _ _ hi sm ⟨_, upd_same, ?_, ?_⟩
    · rw [List.length_map, List.length_range]
      omega
    · rw [upd_upd, List.range_succ, List.map_append]
      rfl
  · rintro H rfl
    exact hd
theorem join_glue0 (ys : List Str) : Txt.join "" ys = glue ys := by
  apply cd_inj
  have h1 : cd (Txt.join "" ys) = TL.joinL (cd "") (ys.map cd) := by
    rw [TL.join_eq]
    exact TL.tl_join "" ys
  have e0 : cd ("" : Str) = [] := by decide +kernel
  rw [h1, e0]
  have h2 : ∀ l : List Str, TL.joinL [] (l.map cd) = cd (glue l) := by
    intro l
    induction l with
    | nil => rfl
    | cons x r ih =>
      cases r with
      | nil =>
        show cd x = cd (x ++ ⟨#[]⟩)
        rw [cd_app]
        simp
      | cons y r =>
        show cd x ++ ([] ++ TL.joinL [] ((y :: r).map cd)) = cd (x ++ glue (y :: r))
        rw [ih, cd_app, List.nil_append]
  exact h2 ys
/-- signs, one text each, put together -/
theorem join_signs (cs : List Nat) : Txt.join "" (cs.map fun c => (⟨#[c]⟩ : Str)) = ⟨cs.toArray⟩ := by
  rw [join_glue0]
  apply cd_inj
  induction cs with
  | nil => rfl
  | cons c r ih =>
    show cd ((⟨#[c]⟩ : Str) ++ glue (r.map fun c => (⟨#[c]⟩ : Str))) = _
    rw [cd_app, ih]
    show [c] ++ (r.toArray).toList = ((c :: r).toArray).toList
    simp
theorem sum_le0 {ys : List Str} {n : Nat} (h : ∀ y ∈ ys, y.length ≤ n) : (ys.map (·.length)).sum ≤ ys.length * n := by
  induction ys with
  | nil => simp
  | cons y r ih =>
    rw [List.map_cons, List.sum_cons, List.length_cons]
    have h1 := h y List.mem_cons_self
    have h2 := ih fun z hz => h z (List.mem_cons_of_mem _ hz)
    have h3 : (r.length + 1) * n = r.length * n + n := by rw [Nat.add_mul, Nat.one_mul]
    omega
theorem vint0 (n : Nat) : (!decide (V.int (n : Nat) = V.int 0)) = !decide (n = 0) := by
  by_cases h : n = 0
  · rw [h]
    rfl
  · rw [decide_eq_false h, decide_eq_false fun z => h (by have := V.int.inj z; omega)]
theorem vN_nonzero (bs : List Nat) : ((vN bs).map fun v => V.bl (!decide (v = .int 0))) = (bs.map fun b => !decide (b = 0)).map V.bl := by
  unfold vN
  rw [List.map_map, List.map_map]
  exact List.map_congr_left fun n _ => congrArg V.bl (vint0 n)
/-- for .. over the keys of a locked dict -/
theorem for_keysL {d : Addr} {o : Obj} {kvs : List (Key × V)} {g : TG} {tb : TS} {D : Ends} {σ : L2.St} {H : Hp} (Pv : Nat → L2.St → Hp → Prop) (h0 : Pv 0 σ H) (locked : ∀ i σ H, i ≤ kvs.length → Pv i σ H → H d = some (.frz o (.dK kvs)))
    (turn : ∀ i k v σ H, kvs[i]? = some (k, v) → Pv i σ H → g (kV k) σ H fun σ2 H2 => tb { D with nx := Pv (i + 1), ct := Pv (i + 1), bk := D.nx } σ2 H2) (after : ∀ σ H, Pv kvs.length σ H → D.nx σ H) :
    ∃ W : Nat → Nat → L2.St → Hp → Prop, (∃ m, W 0 m σ H) ∧ ∀ i m σ H, W i m σ H → ((Itk d o kvs).stop i H ∧ D.nx σ H) ∨
      ((Itk d o kvs).go i H ∧ ∃ N : L2.St → Hp → Prop, (∀ σ' H', N σ' H' → ∃ m', m' < m ∧ W (i + 1) m' σ' H') ∧ ∀ x H', (Itk d o kvs).yld i H x H' → g x σ H' fun σ2 H2 => tb { D with nx := N, ct := N, bk := D.nx } σ2 H2) := by
  refine ⟨fun i m σ H => i + m = kvs.length ∧ Pv i σ H, ⟨kvs.length, by omega, h0⟩, ?_⟩
  rintro i m σ H ⟨e, p⟩
  have lk := locked i σ H (by omega) p
  by_cases lt : i < kvs.length
  · refine .inr ⟨⟨lk, lt⟩, Pv (i + 1), fun σ' H' p' => ⟨m - 1, by omega, by omega, p'⟩, ?_⟩
    rintro x H' ⟨rfl, k, v, at_, rfl⟩
    exact turn i k v σ _ at_ p
  · obtain rfl : i = kvs.length := by omega
    exact .inl ⟨⟨lk, Nat.le_refl _⟩, after σ H p⟩
end Pg

/-! Comprehensions over a range with steps and over what enumerate tells. -/
namespace Pg
open PySem PySem.Spec PyProof.Rows L2

theorem fitsL {i : Int} (h1 : -9000000 ≤ i) (h2 : i ≤ 9000000) : Builtin.Range.rangeFitsLong i = true := by
  unfold Builtin.Range.rangeFitsLong
  rw [Bool.and_eq_true, decide_eq_true_eq, decide_eq_true_eq]
  omega
theorem rgC_up {j c : Nat} (hj : j < 1000000) (hc : 0 < c) (hc2 : c < 1000000) : RgC 0 (j : Int) (c : Int) ((j + c - 1) / c) := by
  have e : Builtin.Range.rangeSize 0 (j : Int) (c : Int) = (((j + c - 1) / c : Nat) : Int) := by
    rw [rangeSize_pos (by omega) (by omega), Int.natCast_ediv]
    congr 1
    omega
  have le : (j + c - 1) / c ≤ j + c := Nat.le_trans (Nat.div_le_self _ _) (by omega)
  generalize (j + c - 1) / c = n at e le ⊢
  refine ⟨by omega, by omega, ?_, e⟩
  unfold Builtin.Range.small
  rw [e]
  rw [fitsL (by omega) (by omega), fitsL (by omega) (by omega), fitsL (by omega) (by omega), fitsL (i := (n : Int)) (by omega) (by omega), if_pos (by omega), fitsL (by omega) (by omega), Bool.or_true]
  rfl
/-- over a range with steps, from values alone -/
theorem lc_stepMap {lo c : Int} {n : Nat} {g : TG} {tt : TT} {te : TE} {vs : List Nat} {σ : L2.St} {H1 : Hp} {D : Addr} {Qd : Hp → Prop} (fx : Nat → V) (nD : H1 D = none) (few : n < sizeLine)
    (hs : ∀ (i : Nat) (H : Hp) (R : V → Hp → Prop) (S : Hp → Prop), i < n → Same H1 H → R (fx i) H →
      g (.int (lo + (i : Nat) * c)) (wipe σ vs) H fun σ2 H2 => wipe σ2 vs = wipe σ vs ∧ tt σ2 H2 fun b H3 => if b = true then te σ2 H3 R else S H3) (hd : Qd (upd H1 D (.lst ((List.range n).map fx)))) :
    ∃ W : Nat → Nat → Hp → Prop, (∃ m, W 0 m (upd H1 D (.lst []))) ∧ ∀ i m H, W i m H → ((Itc lo c n).stop i H ∧ Qd H) ∨
      ((Itc lo c n).go i H ∧ ∃ Nx : Hp → Prop, (∀ H', Nx H' → ∃ m', m' < m ∧ W (i + 1) m' H') ∧ ∀ x H', (Itc lo c n).yld i H x H' →
        g x (wipe σ vs) H' fun σ2 H2 => wipe σ2 vs = wipe σ vs ∧ tt σ2 H2 fun b H3 => if b = true then te σ2 H3 fun y H4 => ∃ acc, H4 D = some (.lst acc) ∧ acc.length < sizeLine ∧ Nx (upd H4 D (.lst (acc ++ [y]))) else Nx H3) := by
  have sm : ∀ {o : HO}, Same H1 (upd H1 D o) := fun {o} p x e => by
    rw [upd_ne (ne_of_none e nD)]
    exact e
  refine ⟨fun i m H => m = n - i ∧ i ≤ n ∧ H = upd H1 D (.lst ((List.range i).map fx)), ⟨n, by simp, Nat.zero_le _, rfl⟩, ?_⟩
  rintro i m H ⟨rfl, hi, rfl⟩
  by_cases lt : i < n
  · refine .inr ⟨lt, fun H' => H' = upd H1 D (.lst ((List.range (i + 1)).map fx)), fun H' p => ⟨n - (i + 1), by omega, rfl, lt, p⟩, fun x H' y => ?_⟩
    obtain ⟨e, y⟩ := y
    subst e y
    refine hs i _ _ _ lt sm ⟨_, upd_same, ?_, ?_⟩
    · rw [List.length_map, List.length_range]
      omega
    · rw [upd_upd, List.range_succ, List.map_append]
      rfl
  · obtain rfl : i = n := by omega
    exact .inl ⟨Nat.le_refl _, hd⟩
/-- over what enumerate tells of a list that stays -/
theorem lc_enum {K : PySem.W.Frag} {a : Addr} {xs : List V} {g : TG} {tt : TT} {te : TE} {vs : List Nat} {σ : L2.St} {H1 : Hp} {D : Addr} {Qd : Hp → Prop} (Pv : Nat → Hp → Prop) (h0 : Pv 0 (upd H1 D (.lst []))) (hl : ∀ i H, i ≤ xs.length → Pv i H → SqL K H a xs)
    (hs : ∀ (i : Nat) (x : V) (H : Hp) (T : Addr), xs[i]? = some x → Pv i H → H T = none → g (.ref T) (wipe σ vs) (upd H T (.tup [.int (i : Nat), x])) fun σ2 H2 => wipe σ2 vs = wipe σ vs ∧ tt σ2 H2 fun b H3 =>
      if b = true then te σ2 H3 fun y H4 => ∃ acc, H4 D = some (.lst acc) ∧ acc.length < sizeLine ∧ Pv (i + 1) (upd H4 D (.lst (acc ++ [y]))) else Pv (i + 1) H3) (hd : ∀ H, Pv xs.length H → Qd H) :
    ∃ W : Nat → Nat → Hp → Prop, (∃ m, W 0 m (upd H1 D (.lst []))) ∧ ∀ i m H, W i m H → ((Ite K a).stop i H ∧ Qd H) ∨
      ((Ite K a).go i H ∧ ∃ Nx : Hp → Prop, (∀ H', Nx H' → ∃ m', m' < m ∧ W (i + 1) m' H') ∧ ∀ x H', (Ite K a).yld i H x H' →
        g x (wipe σ vs) H' fun σ2 H2 => wipe σ2 vs = wipe σ vs ∧ tt σ2 H2 fun b H3 => if b = true then te σ2 H3 fun y H4 => ∃ acc, H4 D = some (.lst acc) ∧ acc.length < sizeLine ∧ Nx (upd H4 D (.lst (acc ++ [y]))) else Nx H3) := by
  refine ⟨fun i m H => m = xs.length - i ∧ i ≤ xs.length ∧ Pv i H, ⟨xs.length, by simp, Nat.zero_le _, h0⟩, ?_⟩
  rintro i m H ⟨rfl, hi, p⟩
  have q := hl i H hi p
  by_cases lt : i < xs.length
  · refine .inr ⟨⟨xs, xs[i], q, by simp [lt]⟩, Pv (i + 1), fun H' p' => ⟨xs.length - (i + 1), by omega, rfl, lt, p'⟩, fun x H' y => ?_⟩
    obtain ⟨T, y1, e, nT, e2, hx⟩ := y
    subst e e2
    exact hs i y1 _ T (hx xs q) p nT
  · obtain rfl : i = xs.length := by omega
    exact .inl ⟨⟨xs, q, Nat.le_refl _⟩, hd H p⟩
/-- for .. in enumerate(..) over a list that stays -/
theorem for_enumL {K : PySem.W.Frag} {a : Addr} {xs : List V} {g : TG} {tb : TS} {D : Ends} {σ : L2.St} {H : Hp} (Pv : Nat → L2.St → Hp → Prop) (h0 : Pv 0 σ H) (hl : ∀ i σ H, i ≤ xs.length → Pv i σ H → SqL K H a xs)
    (hs : ∀ (i : Nat) (x : V) σ H T, xs[i]? = some x → Pv i σ H → H T = none → g (.ref T) σ (upd H T (.tup [.int (i : Nat), x])) fun σ2 H2 => tb { D with nx := Pv (i + 1), ct := Pv (i + 1), bk := D.nx } σ2 H2) (hd : ∀ σ H, Pv xs.length σ H → D.nx σ H) :
    ∃ W : Nat → Nat → L2.St → Hp → Prop, (∃ m, W 0 m σ H) ∧ ∀ i m σ H, W i m σ H → ((Ite K a).stop i H ∧ D.nx σ H) ∨
      ((Ite K a).go i H ∧ ∃ N : L2.St → Hp → Prop, (∀ σ' H', N σ' H' → ∃ m', m' < m ∧ W (i + 1) m' σ' H') ∧ ∀ x H', (Ite K a).yld i H x H' → g x σ H' fun σ2 H2 => tb { D with nx := N, ct := N, bk := D.nx } σ2 H2) := by
  refine ⟨fun i m σ H => m = xs.length - i ∧ i ≤ xs.length ∧ Pv i σ H, ⟨xs.length, by simp, Nat.zero_le _, h0⟩, ?_⟩
  rintro i m σ H ⟨rfl, hi, p⟩
  have q := hl i σ H hi p
  by_cases lt : i < xs.length
  · refine .inr ⟨⟨xs, xs[i], q, by simp [lt]⟩, Pv (i + 1), fun σ' H' p' => ⟨xs.length - (i + 1), by omega, rfl, lt, p'⟩, fun x H' y => ?_⟩
    obtain ⟨T, y1, e, nT, e2, hx⟩ := y
    subst e e2
    exact hs i y1 σ _ T (hx xs q) p nT
  · obtain rfl : i = xs.length := by omega
    exact .inl ⟨⟨xs, q, Nat.le_refl _⟩, hd σ H p⟩
/-- len of a list or a tuple, within a block -/
def rLenK (K : PySem.W.Frag) : List V → Hp → VK → Prop := fun xs H Q => ∃ p ys, xs = [.ref p] ∧ (SqL K H p ys ∨ SqT K H p ys) ∧ Q (.int ys.length) H
theorem call_lenK {X : Cx} {K : PySem.W.Frag} (h : X.K = K) : CallR X (.builtin "len") (rLenK K) := h ▸ call_len_seq
theorem tyx_tup {K : PySem.W.Frag} {H : Hp} {a : Addr} {xs : List V} (h : SqT K H a xs) : TyX K H (.ref a) (.type "tuple") := by
  rcases h with (h | ⟨o, h⟩) | ⟨o, its, n, h, c, _⟩
  · exact .base (.tup h)
  · exact .fTuple h
  · exact .kTuple h c
/-- data of a row of objects, from the data of each -/
theorem dpAll_refs {K : PySem.W.Frag} {H : Hp} : ∀ (ps : List Addr) (d : Nat → PyData), (∀ (k : Nat) (p : Addr), ps[k]? = some p → Dp K H (.ref p) (d k)) → DpAll K H (ps.map V.ref) ((List.range ps.length).map d)
  | [], _, _ => .nil
  | p :: r, d, h => by
    rw [List.length_cons, List.range_succ_eq_map, List.map_cons, List.map_cons, List.map_map]
    exact .cons (h 0 p rfl) (dpAll_refs r (fun k => d (k + 1)) fun k q e => h (k + 1) q e)
theorem noB_rows (d : Nat → PyData) (h : ∀ k, noB (d k) = true) : ∀ n : List Nat, noBAll (n.map d) = true
  | [] => rfl
  | k :: r => by
    show (noB (d k) && noBAll (r.map d)) = true
    rw [h k, Bool.true_and]
    exact noB_rows d h r
theorem noB_ints (bs : List Nat) : noB (.list (bs.map fun n => PyData.int (n : Nat))) = true := by
  show noBAll _ = true
  exact noB_vN bs
end Pg

/-! Several except clauses, each with a name of its own or without; methods that may raise. -/
namespace Pg
open PySem PySem.Spec PyProof.Rows L2

/-- what a clause does with the error: in a slot, or not at all -/
abbrev Cl := Value × Option Nat × (Addr → Value → Option Addr → TS)
/-- the ends of a suite whose error stands in slot i -/
def endsAs (D : Ends) : Option Nat → Ends
  | none => D
  | some i => ⟨fun τ G => D.nx (τ.set i none) G, D.rt, fun τ G => D.bk (τ.set i none) G, fun τ G => D.ct (τ.set i none) G⟩
def slotAs (τ : L2.St) (a : Addr) : Option Nat → L2.St
  | none => τ
  | some i => τ.set i (some (.ref a))
/-- what the clauses wish of an error, the first that fits -/
def wList (K : PySem.W.Frag) (W0 : WX) (D : Ends) : List Cl → WX
  | [] => W0
  | (c, o, ts) :: r => fun cls d τ G => ∃ b, PySem.W.exmOne K cls c = some b ∧ (b = true → ∀ a, G a = none → ts a cls d (endsAs D o) (slotAs τ a o) G) ∧ (b = false → wList K W0 D r cls d τ G)
inductive HdsAs (X : Cx) : List ExceptHandler → List Cl → Prop
  | nil : HdsAs X [] []
  | bare {x : Str} {c : Value} {ts : Addr → Value → Option Addr → TS} {s0 : Stmt} {ss : List Stmt} {p1 p2 : Pos} {hr : List ExceptHandler} {l : List Cl} (named : Names X x c)
      (does : ∀ (a : Addr) (oe : Obj) (cls : Value) (d : Option Addr) (pn : List (Addr × Obj)), Zc cls d oe → (∃ vs, oe.data = .fields vs) → PSs (X.suite a ((a, oe) :: pn)) (s0 :: ss) (ts a cls d)) (more : HdsAs X hr l) :
      HdsAs X (.ExceptHandler (some (.Name x p1)) none (s0 :: ss) p2 :: hr) ((c, none, ts) :: l)
  | as_ {x n : Str} {c : Value} {i : Nat} {ts : Addr → Value → Option Addr → TS} {s0 : Stmt} {ss : List Stmt} {p1 p2 : Pos} {hr : List ExceptHandler} {l : List Cl} (named : Names X x c) (slot : X.N[i]? = some n) (own : X.env.kindOf n = some .local)
      (does : ∀ (a : Addr) (oe : Obj) (cls : Value) (d : Option Addr) (pn : List (Addr × Obj)), Zc cls d oe → (∃ vs, oe.data = .fields vs) → PSs (X.suite a ((a, oe) :: pn)) (s0 :: ss) (ts a cls d)) (more : HdsAs X hr l) :
      HdsAs X (.ExceptHandler (some (.Name x p1)) (some n) (s0 :: ss) p2 :: hr) ((c, some i, ts) :: l)
section
variable {X : Cx} {body : List Stmt} {h0 : ExceptHandler} {hr : List ExceptHandler} {l : List Cl} {pos : Pos} {tb : WX → TS} {W0 : WX}
theorem ps_tryL (stk : X.stack = X.env :: X.outer) (fr : X.env.frame = some X.env.locals) (nd : X.N.Nodup) (tk : Takes X W0)
    (hb : ∀ (W : WX) (pn : List (Addr × Obj)) (xe : Value → Shared → Prop), Takes (X.tr pn xe) W → PassesOwn (model X.prog X.w) X.A X.env xe → PSs (X.tr pn xe) body (tb W)) (hh : HdsAs X (h0 :: hr) l) :
    PS X (.Try body (h0 :: hr) [] [] pos) (fun D τ G => tb (wList X.K W0 D l) D τ G) := by
  constructor
  intro pins s τ G D I hyp
  have ok := I.ok
  have frs_ : X.A.frames = some (X.env :: X.outer) := ok.frames.trans (congrArg some stk)
  apply wpAny_Try_except
  have caught := hb (wList X.K W0 D l) (X.pn ++ pins) (fun e t1 => wpAny (model X.prog X.w) X.A (noteFrame e X.env)
    (fun _ t2 => wpAny (model X.prog X.w) X.A (setFlight e none) (fun _ t3 => wpAny (model X.prog X.w) X.A (handleBy e X.env (h0 :: hr)) (SP X pins D) X.xe t3) X.xe t2) X.xe t1) ?_ PassesOwn.looking
  · refine wpAny_mono (caught.run [] s τ G D (I.toTry _) hyp) (fun f t hsp => ?_) (fun e t he => he)
    cases f with
    | next => obtain ⟨τ1, G1, J1, q⟩ := hsp; exact wpAny_execs_nil ⟨τ1, G1, J1.ofTry ok, q⟩
    | brk => obtain ⟨τ1, G1, J1, q⟩ := hsp; exact ⟨τ1, G1, J1.ofTry ok, q⟩
    | cont => obtain ⟨τ1, G1, J1, q⟩ := hsp; exact ⟨τ1, G1, J1.ofTry ok, q⟩
    | ret u => obtain ⟨v, τ1, G1, J1, r1, q⟩ := hsp; exact ⟨v, τ1, G1, J1.ofTry ok, r1, q⟩
  rintro u t ⟨a, B, tI, pins1, τ1, G1, cls, d, rfl, J1, bare, up, sky, free, os, ag, wish⟩
  have J : Inv X pins τ1 G1 tI := J1.ofTry ok
  rw [stk] at sky
  show wpAny (model X.prog X.w) X.A (noteFrame (.ref a) X.env) _ _ _
  apply Sky.land Zc.steady frs_ fr sky
  intro g3 fl3 up3
  have K3 : Inv X pins τ1 G1 { t with heap := g3 } := J.landed bare fl3.1 (up.trans up3) os ag
  obtain ⟨oe, vs, at_a, zc, fields⟩ := fl3.there
  have off : a ∉ frs (X.env :: X.outer) := fun m => by
    obtain ⟨_, o1, e1, no⟩ := (fl3.2.2.1).mem m
    obtain rfl : oe = o1 := Option.some.inj (at_a.symm.trans e1)
    exact no _ fields
  have offL : a ≠ X.env.locals := fun e => off (List.mem_filterMap.mpr ⟨X.env, List.mem_cons_self, by rw [fr, e]⟩)
  have offF : a ∉ X.fs := fun m => by
    obtain ⟨en, hen, q⟩ := List.mem_filterMap.mp m
    exact off (List.mem_filterMap.mpr ⟨en, List.mem_cons_of_mem _ hen, q⟩)
  have S3 := K3.suite at_a fields free offL offF
  have look : ∀ {x : Str} {c : Value}, Names X x c → ∀ {p : Pos} {Q E : Value → Shared → Prop}, Q c { t with heap := g3 } → wpAny (model X.prog X.w) (X.A.mark (some (.ref a))) (eval (.Name x p) X.env) Q E { t with heap := g3 } := by
    rintro x c ⟨gl, dbg, m | ⟨m, b, nn⟩⟩ p Q E q
    · exact ld_glob (X := X.suite a ((a, oe) :: (X.pn ++ pins))) S3 gl m q dbg
    · exact ld_blt (X := X.suite a ((a, oe) :: (X.pn ++ pins))) S3 gl m b q nn dbg
  have kind : PySem.W.Looks (model X.prog X.w) g3 (typeOf (.ref a)) cls := fun A Q E s k q => by
    apply wpAny_typeOf_ref (k _ _ at_a)
    rw [zc.1]
    exact q
  have go : ∀ {hs : List ExceptHandler} {m : List Cl}, HdsAs X hs m → wList X.K W0 D m cls d τ1 G1 → wpAny (model X.prog X.w) X.A (handleBy (.ref a) X.env hs) (SP X pins D) X.xe { t with heap := g3 } := by
    intro hs m ok2
    induction ok2 with
    | nil =>
      intro w
      apply wpAny_handleBy_nil
      obtain ⟨_, _, _, ob, fv, T, oT, _, e1, _, e2, e3, _⟩ := id fl3
      have fin : wpAny (model X.prog X.w) X.A (setFlight (.ref a) X.env.frame) (fun _ t4 => wpAny (model X.prog X.w) X.A (throw (.ref a) : Sem Flow) (SP X pins D) X.xe t4) X.xe { t with heap := g3 } := by
        rw [fr]
        apply HandSPX.setFlight_upZ fl3
        intro g4 here up4
        exact wpAny_throw (tk _ _ ⟨a, B, tI, pins, τ1, G1, cls, d, rfl, J, bare, (up.trans up3).trans up4, .inr (.inr (by rw [stk]; exact here)), free, os, ag, w⟩)
      unfold PySem.passOn
      apply wpAny_bind
      apply wpAny_field e1 e2 e3
      rw [if_neg (show ¬ ((Value.ref T == Value.none) = true) by simp)]
      first
        | exact wpAny_bind fin
        | exact wpAny_bind (wpAny_pure (wpAny_bind fin))
    | bare named does more ih =>
      rintro ⟨b, fits, yes, no⟩
      apply wpAny_handleBy_cons (codeAny_handlers_test ?_) (by intro q; cases q)
      refine look named ((PySem.W.exm_one (M := model X.prog X.w) K3.kIn kind fits).here ?_)
      cases b with
      | false => exact ih (no rfl)
      | true =>
        apply codeAny_handlers_suite
        apply HandSPX.lands_againZ fl3
        intro g4 fl4 up4
        obtain ⟨oe4, _, at4, zc4, fd4⟩ := fl4.there
        have S4 := (J.landed bare fl4.1 ((up.trans up3).trans up4) os ag : Inv X pins τ1 G1 { t with heap := g4 }).suite at4 fd4 free offL offF
        refine wpAny_mono ((does a oe4 cls d (X.pn ++ pins) zc4 ⟨_, fd4⟩).run [] _ _ G1 _ S4 (yes rfl a free)) (fun f t6 hsp => ?_) (fun _ _ z => False.elim z)
        cases f with
        | next => obtain ⟨τ6, G6, S6, q6⟩ := hsp; exact ⟨_, _, S6.unsuite ok, q6⟩
        | brk => obtain ⟨τ6, G6, S6, q6⟩ := hsp; exact ⟨_, _, S6.unsuite ok, q6⟩
        | cont => obtain ⟨τ6, G6, S6, q6⟩ := hsp; exact ⟨_, _, S6.unsuite ok, q6⟩
        | ret u => obtain ⟨v6, τ6, G6, S6, r6, q6⟩ := hsp; exact ⟨_, _, _, S6.unsuite ok, r6, q6⟩
    | @as_ x n c i ts s0 ss p1 p2 hr l named slot own does more ih =>
      rintro ⟨b, fits, yes, no⟩
      apply wpAny_handleBy_cons (codeAny_handlers_test ?_) (by intro q; cases q)
      refine look named ((PySem.W.exm_one (M := model X.prog X.w) K3.kIn kind fits).here ?_)
      cases b with
      | false => exact ih (no rfl)
      | true =>
        apply codeAny_handlers_suite_as
        apply HandSPX.lands_againZ fl3
        intro g4 fl4 up4
        obtain ⟨oe4, _, at4, zc4, fd4⟩ := fl4.there
        have S4 := (J.landed bare fl4.1 ((up.trans up3).trans up4) os ag : Inv X pins τ1 G1 { t with heap := g4 }).suite at4 fd4 free offL offF
        refine store_ok (X := X.suite a ((a, oe4) :: (X.pn ++ pins))) (v := .ref a) S4 nd slot (.inl own) rfl (fun t5 S5 => ?_) (.inr own)
        refine wpAny_mono ((does a oe4 cls d (X.pn ++ pins) zc4 ⟨_, fd4⟩).run [] t5 _ G1 _ S5 (yes rfl a free)) (fun f t6 hsp => ?_) (fun _ _ z => False.elim z)
        have away : ∀ {τ6 : L2.St} {G6 : Hp} {Q : Shared → Prop}, Inv (X.suite a ((a, oe4) :: (X.pn ++ pins))) [] τ6 G6 t6 → (∀ t7, Inv X pins (τ6.set i none) G6 t7 → Q t7) →
            wpAny (model X.prog X.w) X.A (do bindName X.env n .none; unbindBehindTheSuite X.env n p2) (fun _ t7 => Q t7) X.xe t6 := fun S6 hq => gone_ok (S6.unsuite ok) nd slot own hq
        cases f with
        | next => obtain ⟨τ6, G6, S6, q6⟩ := hsp; exact away S6 fun t7 J7 => ⟨_, _, J7, q6⟩
        | brk => obtain ⟨τ6, G6, S6, q6⟩ := hsp; exact away S6 fun t7 J7 => ⟨_, _, J7, q6⟩
        | cont => obtain ⟨τ6, G6, S6, q6⟩ := hsp; exact away S6 fun t7 J7 => ⟨_, _, J7, q6⟩
        | ret u => obtain ⟨v6, τ6, G6, S6, r6, q6⟩ := hsp; exact away S6 fun t7 J7 => ⟨_, _, _, J7, r6, q6⟩
  exact go hh wish
end
end Pg

/-! Methods and makes that may raise; own errors without fields; walks over zip and reversed. -/
namespace Pg
open PySem PySem.Spec PyProof.Rows L2

/-- a method of the class at C that may raise -/
def CalMX (P : Program) (w : World) (K : PySem.W.Frag) (mg : Str → Option Value) (base : Heap) (C : Addr) (m : Str) (k : Nat) (ps : List Str) (sp : Sp) : Prop :=
  Cls K C ∧ ∃ f fd, FnOk P w K mg base (L2.CX P w) k f fd ps sp ∧ Binds K fd ps [] ∧ Meth K C m f
/-- a class whose making may raise -/
def CalKX (P : Program) (w : World) (K : PySem.W.Frag) (mg : Str → Option Value) (base : Heap) (x : Str) (C : Addr) (k : Nat) (ps : List Str) (sp : Sp) : Prop :=
  mg x = some (.ref C) ∧ ∃ f fd, Mk K C f ∧ FnOk P w K mg base (L2.CX P w) k f fd ps sp ∧ Binds K fd ps []
def tMethS (C : Addr) (m : Str) (sp : Sp) (E : L2.St → XK) (ta : TE) (t : TA) : TE := fun τ G Q => ta τ G fun x G1 => ∃ a dx fs, x = .ref a ∧ G1 a = some (.ins C dx fs) ∧ fs.lookup m = none ∧ t τ G1 fun vs G2 => sp (x :: vs) G2 Q (E τ)
def tMakeS (C : Addr) (sp : Sp) (E : L2.St → XK) (t : TA) : TE := fun τ G Q => t τ G fun vs G1 => ∀ x dx, G1 x = none → G1 dx = none → dx ≠ x → sp (.ref x :: vs) (upd (upd G1 dx (.own x)) x (.ins C dx [])) (fun v G2 => v = .non ∧ Q (.ref x) G2) (E τ)
section
variable {X : Cx} {C : Addr} {k : Nat} {m x : Str} {ps : List Str} {sp : Sp} {o e : Expr} {es : List Expr} {to : TE} {t : TA} {apos pos p : Pos} {E : L2.St → XK}
theorem pe_calMX {pl : Sem Bool} (M : CalMX X.prog X.w X.K X.mg X.base C m k ps sp) (hr : Room k X.A) (hx : ∀ τ, PassesAt (L2.CX X.prog X.w) X τ (E τ)) (ho : PE X o to) (ha : PA X (e :: es) t)
    (hst : starEach (e :: es) X.env = (false, eval e X.env) :: starEach es X.env := by rfl) (hpl : (backTo pos (starEach es X.env)).any (·.1) = false := by rfl)
    (ht : eval (.Call (.Attribute o m apos) (e :: es) [] pos) X.env = (do
      let ov ← eval o X.env
      standAt apos.atName
      let (f, first) ← holding [ov] (getMethod ov m pl)
      callWith pos f first (backTo pos (starEach (e :: es) X.env)) (backToKw pos (keywordEach [] X.env))) := by rfl) :
    PE X (.Call (.Attribute o m apos) (e :: es) [] pos) (tMethS C m sp E to t) := by
  obtain ⟨c, f, fd, F, b, h⟩ := M
  constructor
  intro pins s τ G Q I hyp
  refine PySem.W.methodCall_KW (pl := pl) (thn (ho.run pins s τ G _ I hyp) fun u s1 back => ?_) ht
  obtain ⟨x, G1, I1, rx, a, dx, fs, rfl, ea, l, q⟩ := back
  obtain rfl : u = Value.ref a := rx
  apply getmeth_ok I1 ea c h l
  refine PySem.W.callWith_K (first := [.ref a]) (h₀ := X.base) I.ok.mod.kin h.kp (thn (ha.run pos pins s1 τ G1 _ I1 q) fun us s2 back2 => ?_) hst hpl
  obtain ⟨vs, G2, I2, r, q2⟩ := back2
  exact ⟨I2.kIn, run_fnS (us := .ref a :: us) (vs := .ref a :: vs) F hr b (hx τ) I2 (.cons rfl r) q2⟩
theorem pe_calMX0 {pl : Sem Bool} (M : CalMX X.prog X.w X.K X.mg X.base C m k ps sp) (hr : Room k X.A) (hx : ∀ τ, PassesAt (L2.CX X.prog X.w) X τ (E τ)) (ho : PE X o to)
    (ht : eval (.Call (.Attribute o m apos) [] [] pos) X.env = (do
      let ov ← eval o X.env
      standAt apos.atName
      let (f, first) ← holding [ov] (getMethod ov m pl)
      callWith pos f first (backTo pos (starEach [] X.env)) (backToKw pos (keywordEach [] X.env))) := by rfl) :
    PE X (.Call (.Attribute o m apos) [] [] pos) (tMethS C m sp E to tNil) := by
  obtain ⟨c, f, fd, F, b, h⟩ := M
  constructor
  intro pins s τ G Q I hyp
  refine PySem.W.methodCall_KW (pl := pl) (thn (ho.run pins s τ G _ I hyp) fun u s1 back => ?_) ht
  obtain ⟨x, G1, I1, rx, a, dx, fs, rfl, ea, l, q⟩ := back
  obtain rfl : u = Value.ref a := rx
  apply getmeth_ok I1 ea c h l
  exact PySem.W.callWith_K0 (first := [.ref a]) I1.kIn h.kp (run_fnS (us := [.ref a]) (vs := [.ref a]) F hr b (hx τ) I1 (.cons rfl .nil) q)
theorem pe_mkX (M : CalKX X.prog X.w X.K X.mg X.base x C k ps sp) (hr : Room (k + 1) X.A) (hg : Gl X x) (hx : ∀ τ, PassesAt (L2.CX X.prog X.w) X τ (E τ)) (ha : PA X (e :: es) t) (hdb : (x == ("__debug__" : Str)) = false := by decide)
    (he : starEach (e :: es) X.env = (false, eval e X.env) :: starEach es X.env := by rfl) (hpl : (backTo pos (starEach es X.env)).any (·.1) = false := by rfl) :
    PE X (.Call (.Name x p) (e :: es) [] pos) (tMakeS C sp E t) := by
  obtain ⟨g, f, fd, mk, F, b⟩ := M
  constructor
  intro pins s τ G Q I hyp
  apply wpAny_Call_Name_kw (ld_glob I hg g ?_ hdb)
  refine PySem.W.callWith_K (h₀ := X.base) I.ok.mod.kin mk.kp (thn (ha.run pos pins s τ G _ I hyp) fun us s1 back => ?_) he hpl
  obtain ⟨vs, G1, I1, r, q⟩ := back
  refine ⟨I1.kIn, ?_⟩
  have q1 := q (s1.heap.objs.size + 1) s1.heap.objs.size (I1.hok.fresh (Nat.le_succ _)) (I1.hok.fresh (Nat.le_refl _)) (Nat.ne_of_lt (Nat.lt_succ_self _))
  have I2 := Inv.made (C := C) I1
  have r2 : Vals (V.ref (s1.heap.objs.size + 1) :: vs) (Value.ref (s1.heap.objs.size + 1) :: us) := .cons rfl r
  have len : (Value.ref (s1.heap.objs.size + 1) :: us).length = ps.length := r2.length.symm.trans (F.len _ _ _ _ q1)
  have bb := b _ (Value.ref (s1.heap.objs.size + 1) :: us) I2.kIn (by rw [List.append_nil]; exact len)
  rw [List.append_nil] at bb
  refine wpAny_call (make_map (f := f) I1.kIn mk.makes mk.init (beq_iff_eq.mp mk.fn) (codeAny_mono (F.run _ X.stack _ _ ⟨Value.ref (s1.heap.objs.size + 1) :: us, []⟩ (Value.ref (s1.heap.objs.size + 1) :: us) _ _ (E τ) (hr.make C us []) (I2.env0.make C us []) bb r2 q1) fun res s' z => ?_))
  match res, z with
  | .ok (.ret u), z =>
    obtain ⟨v, G', I3, rv, ev, q3⟩ := I2.after z
    subst ev
    exact ⟨rv, ⟨V.ref (s1.heap.objs.size + 1), G', I3, rfl, q3⟩⟩
  | .ok .next, z => exact False.elim z
  | .ok .brk, z => exact False.elim z
  | .ok .cont, z => exact False.elim z
  | .error e, z => exact hx τ pins _ _ e s' I2 z
end
/-- an own error over ValueError, without fields -/
structure ErrTxt (K : PySem.W.Frag) (mg : Str → Option Value) (x : Str) (C : Addr) : Prop where
  g : mg x = some (.ref C)
  ex : PySem.W.excIn K C [.type "ValueError", .type "Exception", .type "BaseException", .type "object"] "ValueError.__new__" = true
  kp : PySem.W.keepIn K (.ref C) = true
  sb : PySem.W.subIn K (.ref C) (.type "BaseException") = some true
  ty : PySem.W.typeIn K (.ref C) = some (.type "type")
theorem ps_raiseErr {X : Cx} {W : WX} {x m : Str} {j : Nat} {p p2 pos pos2 : Pos} {C : Addr} (hc : X.calm = true) (T : ErrTxt X.K X.mg x C) (tk : Takes X W) (hg : Gl X x := by rfl) (hdb : (x == ("__debug__" : Str)) = false := by decide) :
    PS X (.Raise (some (.Call (.Name x p) [.Constant (.str m) j p2] [] pos)) none pos2) (fun _ τ G => W (.ref C) none τ G) := ps_raise hc tk (pmk_own PySem.F.excBase_ValueError T.ex T.g T.kp (raises_own T.sb T.ty) hg hdb)
/-- for (..) in zip(a, b) over lists, the second at least as long -/
theorem for_zipM {K : PySem.W.Frag} {a b : Addr} {xs ys : List V} {g : TG} {tb : TS} {D : Ends} {σ : L2.St} {H : Hp} (hl : xs.length ≤ ys.length) (Pv : Nat → L2.St → Hp → Prop) (h0 : Pv 0 σ H) (hq : ∀ i σ H, Pv i σ H → SqL K H a xs ∧ SqL K H b ys)
    (hs : ∀ (i : Nat) (x y : V) (T : Addr) (σ : L2.St) (H : Hp), xs[i]? = some x → ys[i]? = some y → Pv i σ H → H T = none → g (.ref T) σ (upd H T (.tup [x, y])) fun σ2 H2 => tb { D with nx := Pv (i + 1), ct := Pv (i + 1), bk := D.nx } σ2 H2)
    (hd : ∀ σ H, Pv xs.length σ H → D.nx σ H) :
    ∃ W : Nat → Nat → L2.St → Hp → Prop, (∃ m, W 0 m σ H) ∧ ∀ i m σ H, W i m σ H → ((Itz K a b).stop i H ∧ D.nx σ H) ∨
      ((Itz K a b).go i H ∧ ∃ N : L2.St → Hp → Prop, (∀ σ' H', N σ' H' → ∃ m', m' < m ∧ W (i + 1) m' σ' H') ∧ ∀ v H', (Itz K a b).yld i H v H' → g v σ H' fun σ2 H2 => tb { D with nx := N, ct := N, bk := D.nx } σ2 H2) := by
  refine ⟨fun i m σ H => m = xs.length - i ∧ i ≤ xs.length ∧ Pv i σ H, ⟨xs.length, rfl, Nat.zero_le _, h0⟩, ?_⟩
  rintro i m σ H ⟨rfl, hi, p⟩
  obtain ⟨qx, qy⟩ := hq i σ H p
  by_cases lt : i < xs.length
  · have hx : xs[i]? = some xs[i] := List.getElem?_eq_getElem lt
    have lt2 : i < ys.length := by omega
    have hy : ys[i]? = some ys[i] := List.getElem?_eq_getElem lt2
    refine .inr ⟨⟨xs, ys, _, _, qx, qy, hx, hy⟩, Pv (i + 1), fun σ' H' p' => ⟨xs.length - (i + 1), by omega, rfl, lt, p'⟩, fun v H' y => ?_⟩
    obtain ⟨T, x1, y1, rfl, nT, rfl, f1, f2⟩ := y
    exact hs i x1 y1 T σ H (f1 xs qx) (f2 ys qy) p nT
  · obtain rfl : i = xs.length := by omega
    exact .inl ⟨⟨xs, ys, qx, qy, Or.inl (Nat.le_refl _)⟩, hd σ H p⟩
/-- for x in reversed(l), a list that stays -/
theorem for_revL {K : PySem.W.Frag} {a : Addr} {xs : List V} {g : TG} {tb : TS} {D : Ends} {σ : L2.St} {H : Hp} (Pv : Nat → L2.St → Hp → Prop) (h0 : Pv 0 σ H) (hq : ∀ i σ H, Pv i σ H → SqL K H a xs)
    (hs : ∀ (i : Nat) (x : V) (σ : L2.St) (H : Hp), i < xs.length → xs[xs.length - 1 - i]? = some x → Pv i σ H → g x σ H fun σ2 H2 => tb { D with nx := Pv (i + 1), ct := Pv (i + 1), bk := D.nx } σ2 H2) (hd : ∀ σ H, Pv xs.length σ H → D.nx σ H) :
    ∃ W : Nat → Nat → L2.St → Hp → Prop, (∃ m, W 0 m σ H) ∧ ∀ i m σ H, W i m σ H → ((Itv K a xs.length).stop i H ∧ D.nx σ H) ∨
      ((Itv K a xs.length).go i H ∧ ∃ N : L2.St → Hp → Prop, (∀ σ' H', N σ' H' → ∃ m', m' < m ∧ W (i + 1) m' σ' H') ∧ ∀ v H', (Itv K a xs.length).yld i H v H' → g v σ H' fun σ2 H2 => tb { D with nx := N, ct := N, bk := D.nx } σ2 H2) := by
  refine ⟨fun i m σ H => m = xs.length - i ∧ i ≤ xs.length ∧ Pv i σ H, ⟨xs.length, rfl, Nat.zero_le _, h0⟩, ?_⟩
  rintro i m σ H ⟨rfl, hi, p⟩
  have q := hq i σ H p
  by_cases lt : i < xs.length
  · have lt2 : xs.length - 1 - i < xs.length := by omega
    refine .inr ⟨⟨lt, xs, _, q, List.getElem?_eq_getElem lt2⟩, Pv (i + 1), fun σ' H' p' => ⟨xs.length - (i + 1), by omega, rfl, lt, p'⟩, fun v H' y => ?_⟩
    obtain ⟨e, y⟩ := y
    subst e
    exact hs i v σ _ lt (y xs q) p
  · obtain rfl : i = xs.length := by omega
    exact .inl ⟨Nat.le_refl _, hd σ H p⟩
/-! two rows, item by item -/
theorem pair_len {α β : Type} {F : α → β → Prop} : ∀ {a : List α} {b : List β}, Paired F a b → a.length = b.length
  | _, _, .nil => rfl
  | _, _, .cons _ t => congrArg (· + 1) (pair_len t)
theorem pair_at {α β : Type} {F : α → β → Prop} : ∀ {a : List α} {b : List β} {i : Nat} {y : β}, Paired F a b → b[i]? = some y → ∃ x, a[i]? = some x ∧ F x y
  | _, _, _, _, .nil, h => by simp at h
  | _, _, 0, y, .cons r t, h => by
    obtain rfl := Option.some.inj h
    exact ⟨_, rfl, r⟩
  | _, _, i + 1, y, .cons r t, h => by
    obtain ⟨x, e, f⟩ := pair_at (i := i) t (by simpa using h)
    exact ⟨x, by simpa using e, f⟩
theorem pair_left {α β : Type} {F : α → β → Prop} {a : List α} {b : List β} {i : Nat} {x : α} (h : Paired F a b) (hx : a[i]? = some x) : ∃ y, b[i]? = some y ∧ F x y := by
  have lt : i < b.length := by
    rw [← pair_len h]
    exact (List.getElem?_eq_some_iff.mp hx).1
  obtain ⟨x', e, f⟩ := pair_at h (List.getElem?_eq_getElem lt)
  rw [hx] at e
  obtain rfl := Option.some.inj e
  exact ⟨_, List.getElem?_eq_getElem lt, f⟩
theorem pair_set {α β : Type} {F : α → β → Prop} : ∀ {a : List α} {b : List β} (i : Nat) {x : α} {y : β}, Paired F a b → F x y → Paired F (a.set i x) (b.set i y)
  | _, _, _, _, _, .nil, _ => .nil
  | _, _, 0, _, _, .cons _ t, f => .cons f t
  | _, _, i + 1, _, _, .cons r t, f => .cons r (pair_set i t f)
theorem pair_app {α β : Type} {F : α → β → Prop} : ∀ {a c : List α} {b d : List β}, Paired F a b → Paired F c d → Paired F (a ++ c) (b ++ d)
  | _, _, _, _, .nil, h => h
  | _, _, _, _, .cons r t, h => .cons r (pair_app t h)
theorem ixN_at {n k : Nat} (h : k < n) : ixN n (k : Int) = some k := by
  unfold ixN
  rw [if_pos (by omega), if_pos (by omega)]
  congr 1
end Pg

/-! isinstance of an error that a suite has caught; its class is asked when it is run. -/
namespace Pg
open PySem PySem.Spec PyProof.Rows L2
def rIsEW (K : PySem.W.Frag) (D a : Addr) (cls : Value) (d : Option Addr) : List V → Hp → VK → Prop := fun xs H Q => cls = .ref D ∧ d = none ∧ rIsE K D a xs H Q
theorem call_isEW {X : Cx} {a D : Addr} {oe : Obj} {cls : Value} {d : Option Addr} {pn : List (Addr × Obj)} (C : ExcC X.K D) (hz : Zc cls d oe) (hf : ∃ vs, oe.data = .fields vs) : CallR (X.suite a ((a, oe) :: pn)) (.builtin "isinstance") (rIsEW X.K D a cls d) := by
  intro pins s σ H xs us Q I r h
  obtain ⟨rfl, rfl, h⟩ := h
  exact call_isE C hz hf pins s σ H xs us Q I r h
theorem kit_cls_of {K : PySem.W.Frag} {C : Addr} {v : Value} {b : Bool} (hd : PySem.W.hasDictIn K C = true) (ht : PySem.W.typeIn K (.ref C) = some (.type "type")) (h : PySem.W.subIn K v (.ref C) = some b) : PySem.W.kitCls K v (.ref C) = some b := by
  obtain ⟨cd, hc, _⟩ := PySem.W.any_some hd
  have e : ((PySem.W.clsIn K C).isSome && PySem.W.typeIn K (.ref C) == some (.type "type")) = true := by rw [hc, ht] <;> rfl
  show (if ((PySem.W.clsIn K C).isSome && PySem.W.typeIn K (.ref C) == some (.type "type")) = true then PySem.W.subIn K v (.ref C) else none) = some b
  rw [if_pos e]
  exact h
theorem kit_true {K : PySem.W.Frag} {C : Addr} {v : Value} (hd : PySem.W.hasDictIn K C = true) (ht : PySem.W.typeIn K (.ref C) = some (.type "type")) (h : PySem.W.subIn K v (.ref C) = some true) : PySem.W.kitOne K v (.ref C) = some true := by
  unfold PySem.W.kitOne
  by_cases e : (v == .ref C) = true
  · rw [if_pos e]
  · rw [if_neg e]
    exact kit_cls_of hd ht h
theorem kit_false {K : PySem.W.Frag} {C D : Addr} (hd : PySem.W.hasDictIn K C = true) (ht : PySem.W.typeIn K (.ref C) = some (.type "type")) (h : PySem.W.subIn K (.ref D) (.ref C) = some false) (hs : PySem.W.subIn K (.ref D) (.ref D) = some true) : PySem.W.kitOne K (.ref D) (.ref C) = some false := by
  unfold PySem.W.kitOne
  by_cases e : (Value.ref D == .ref C) = true
  · have : Value.ref D = .ref C := beq_iff_eq.mp e
    rw [← this, hs] at h
    cases h
  · rw [if_neg e]
    exact kit_cls_of hd ht h
end Pg

namespace K42
open PySem PySem.Spec PyProof.Rows L2 Pg
def topS (i : Nat) : Stmt := PySem.Challenge.pw_pagesatonce_k42_cut_on_schedule.main.body.getD i (.Pass ⟨0, 0, 0, 0⟩)
abbrev s_are_within : Stmt := topS 12
theorem sc_are_within : FnScope ["numbers", "most", "number"] ["numbers", "most"] (defScope s_are_within) := ⟨rfl, rfl, rfl, by decide +kernel, rfl, by decide +kernel, by decide +kernel⟩
abbrev s_check_torn : Stmt := topS 11
theorem sc_check_torn : FnScope ["torn"] ["torn"] (defScope s_check_torn) := ⟨rfl, rfl, rfl, by decide +kernel, rfl, by decide +kernel, by decide +kernel⟩
abbrev s_Disk_init : Stmt := inClass (topS 10) 0
theorem sc_Disk_init : FnScope ["self", "blocks", "_"] ["self", "blocks"] (defScope s_Disk_init) := ⟨rfl, rfl, rfl, by decide +kernel, rfl, by decide +kernel, by decide +kernel⟩
abbrev s_Disk_size : Stmt := inClass (topS 10) 1
theorem sc_Disk_size : FnScope ["self"] ["self"] (defScope s_Disk_size) := ⟨rfl, rfl, rfl, by decide +kernel, rfl, by decide +kernel, by decide +kernel⟩
abbrev s_Disk_check_at : Stmt := inClass (topS 10) 9
theorem sc_Disk_check_at : FnScope ["self", "at"] ["self", "at"] (defScope s_Disk_check_at) := ⟨rfl, rfl, rfl, by decide +kernel, rfl, by decide +kernel, by decide +kernel⟩
abbrev s_Disk_store : Stmt := inClass (topS 10) 11
theorem sc_Disk_store : FnScope ["self", "lengths", "at", "block", "length"] ["self", "lengths"] (defScope s_Disk_store) := ⟨rfl, rfl, rfl, by decide +kernel, rfl, by decide +kernel, by decide +kernel⟩
abbrev s_Disk_cut_power : Stmt := inClass (topS 10) 7
theorem sc_Disk_cut_power : FnScope ["self", "torn", "missing"] ["self", "torn"] (defScope s_Disk_cut_power) := ⟨rfl, rfl, rfl, by decide +kernel, rfl, by decide +kernel, by decide +kernel⟩
abbrev s_Disk_count_down : Stmt := inClass (topS 10) 10
theorem sc_Disk_count_down : FnScope ["self"] ["self"] (defScope s_Disk_count_down) := ⟨rfl, rfl, rfl, by decide +kernel, rfl, by decide +kernel, by decide +kernel⟩
abbrev s_Disk_read : Stmt := inClass (topS 10) 2
theorem sc_Disk_read : FnScope ["self", "at", "place", "block"] ["self", "at"] (defScope s_Disk_read) := ⟨rfl, rfl, rfl, by decide +kernel, rfl, by decide +kernel, by decide +kernel⟩
abbrev s_Disk_write : Stmt := inClass (topS 10) 3
theorem sc_Disk_write : FnScope ["self", "at", "block"] ["self", "at", "block"] (defScope s_Disk_write) := ⟨rfl, rfl, rfl, by decide +kernel, rfl, by decide +kernel, by decide +kernel⟩
abbrev s_Disk_flush : Stmt := inClass (topS 10) 4
theorem sc_Disk_flush : FnScope ["self"] ["self"] (defScope s_Disk_flush) := ⟨rfl, rfl, rfl, by decide +kernel, rfl, by decide +kernel, by decide +kernel⟩
abbrev s_Disk_pending_count : Stmt := inClass (topS 10) 5
theorem sc_Disk_pending_count : FnScope ["self"] ["self"] (defScope s_Disk_pending_count) := ⟨rfl, rfl, rfl, by decide +kernel, rfl, by decide +kernel, by decide +kernel⟩
abbrev s_Disk_cut_count : Stmt := inClass (topS 10) 6
theorem sc_Disk_cut_count : FnScope ["self"] ["self"] (defScope s_Disk_cut_count) := ⟨rfl, rfl, rfl, by decide +kernel, rfl, by decide +kernel, by decide +kernel⟩
abbrev s_Disk_schedule_cut : Stmt := inClass (topS 10) 8
theorem sc_Disk_schedule_cut : FnScope ["self", "many", "torn"] ["self", "many", "torn"] (defScope s_Disk_schedule_cut) := ⟨rfl, rfl, rfl, by decide +kernel, rfl, by decide +kernel, by decide +kernel⟩
abbrev s_law_cell : Stmt := topS 14
theorem sc_law_cell : FnScope ["script", "k"] ["script", "k"] (defScope s_law_cell) := ⟨rfl, rfl, rfl, by decide +kernel, rfl, by decide +kernel, by decide +kernel⟩
abbrev s_law_digits : Stmt := topS 15
theorem sc_law_digits : FnScope ["script", "first", "last", "digits", "k", "cell", "turn", "seed"] ["script", "first", "last"] (defScope s_law_digits) := ⟨rfl, rfl, rfl, by decide +kernel, rfl, by decide +kernel, by decide +kernel⟩
abbrev s_law_draw : Stmt := topS 16
theorem sc_law_draw : FnScope ["box", "many", "at"] ["box", "many"] (defScope s_law_draw) := ⟨rfl, rfl, rfl, by decide +kernel, rfl, by decide +kernel, by decide +kernel⟩
abbrev s_law_torn : Stmt := topS 17
theorem sc_law_torn : FnScope ["box", "many", "kind", "k"] ["box", "many"] (defScope s_law_torn) := ⟨rfl, rfl, rfl, by decide +kernel, rfl, by decide +kernel, by decide +kernel⟩
abbrev s_law_schedule : Stmt := topS 18
theorem sc_law_schedule : FnScope ["disk", "count", "torn", "e"] ["disk", "count", "torn"] (defScope s_law_schedule) := ⟨rfl, rfl, rfl, by decide +kernel, rfl, by decide +kernel, by decide +kernel⟩
abbrev s_law_do_raw : Stmt := topS 19
theorem sc_law_do_raw : FnScope ["disk", "at", "block"] ["disk", "at", "block"] (defScope s_law_do_raw) := ⟨rfl, rfl, rfl, by decide +kernel, rfl, by decide +kernel, by decide +kernel⟩
abbrev s_law_do : Stmt := topS 20
theorem sc_law_do : FnScope ["disk", "at", "block", "told", "e"] ["disk", "at", "block"] (defScope s_law_do) := ⟨rfl, rfl, rfl, by decide +kernel, rfl, by decide +kernel, by decide +kernel⟩
abbrev s_law : Stmt := topS 21
theorem sc_law : FnScope ["script", "box", "size", "disk", "blocks", "pending", "left", "torn", "cuts", "turn", "kind", "handed", "at", "block", "actual", "k", "place", "entry"] ["script"] (defScope s_law) := ⟨rfl, rfl, rfl, by decide +kernel, rfl, by decide +kernel, by decide +kernel⟩
structure T_Disk (K : PySem.W.Frag) (mg : Str → Option Value) (C : Addr) : Prop where
  cl : Cls K C
  g : mg "Disk" = some (.ref C)
  n_stored : NoAttr K C "_stored"
  n_waiting : NoAttr K C "_waiting"
  n_cuts : NoAttr K C "_cuts"
  n_ahead : NoAttr K C "_ahead"
  n_torn : NoAttr K C "_torn"
structure Z (mg : Str → Option Value) : Prop where
  «len» : mg "len" = none
  «range» : mg "range" = none
  «int» : mg "int" = none
  «list» : mg "list" = none
  «all» : mg "all" = none
  «zip» : mg "zip" = none
  «reversed» : mg "reversed" = none
  «min» : mg "min" = none
  «max» : mg "max" = none
  «isinstance» : mg "isinstance" = none
  c_BLOCK : ∃ t, mg "BLOCK" = some (.int 32 t)
  c_BLOCKS_MOST : ∃ t, mg "BLOCKS_MOST" = some (.int 400 t)
  c__BLOCKS_LEAST : ∃ t, mg "_BLOCKS_LEAST" = some (.int 8 t)
  c__BYTE_MOST : ∃ t, mg "_BYTE_MOST" = some (.int 255 t)
  c__SCHEDULE_MOST : ∃ t, mg "_SCHEDULE_MOST" = some (.int 100000 t)
end K42

namespace K42
open PySem PySem.Spec PyProof.Rows L2 Pg
/-! ### what the helpers of the law promise -/
/-- a cell of the script, or 0 -/
def spCell (K : PySem.W.Frag) : Sp := fun vs H Q _ => ∃ (l : Addr) (ns : List Int) (k : Nat), vs = [.ref l, .int (k : Nat)] ∧ SqL K H l (ns.map V.int) ∧ ∀ c : Int, Q (.int c) H
/-- a new list of some whole numbers -/
def spDigits (K : PySem.W.Frag) : Sp := fun vs H Q _ => ∃ (l : Addr) (ns : List Int) (a b : Nat), vs = [.ref l, .int (a : Nat), .int (b : Nat)] ∧ SqL K H l (ns.map V.int) ∧ a ≤ 63 ∧ b ≤ 63 ∧
  ∀ (H' : Hp) (p : Addr) (ds : List Int), Same H H' → H p = none → H' p = some (.lst (ds.map V.int)) → ds.length ≤ 4000 → Q (.ref p) H'
/-- the box of the draws: its digits stand at d -/
def BoxAt (H : Hp) (b d : Addr) : Prop := ∃ (ds : List Int) (n : Nat), H b = some (.lst [.ref d, .int (n : Nat)]) ∧ H d = some (.lst (ds.map V.int)) ∧ d ≠ b ∧ ds.length ≤ 4000
def Box (H : Hp) (b : Addr) : Prop := ∃ d, BoxAt H b d
/-- all but the box is as it was -/
structure Drew (b : Addr) (H H' : Hp) : Prop where
  box : Box H' b
  dig : ∀ d, BoxAt H b d → BoxAt H' b d
  keep : ∀ p o, p ≠ b → H p = some o → H' p = some o
theorem Drew.trans {b : Addr} {H H1 H2 : Hp} (x : Drew b H H1) (y : Drew b H1 H2) : Drew b H H2 := ⟨y.box, fun d e => y.dig d (x.dig d e), fun p o n e => y.keep p o n (x.keep p o n e)⟩
theorem BoxAt.same {b d : Addr} {H H' : Hp} (x : BoxAt H b d) (s : Same H H') : BoxAt H' b d := by
  obtain ⟨ds, n, e1, e2, ne, few⟩ := x
  exact ⟨ds, n, s _ _ e1, s _ _ e2, ne, few⟩
theorem BoxAt.upd {b d p : Addr} {H : Hp} {o : HO} (x : BoxAt H b d) (n1 : p ≠ b) (n2 : p ≠ d) : BoxAt (upd H p o) b d := by
  obtain ⟨ds, n, e1, e2, ne, few⟩ := x
  exact ⟨ds, n, by rw [upd_ne n1.symm]; exact e1, by rw [upd_ne n2.symm]; exact e2, ne, few⟩
theorem BoxAt.ne {b d p : Addr} {H : Hp} (x : BoxAt H b d) (n : H p = none) : p ≠ b ∧ p ≠ d := by
  obtain ⟨ds, m, e1, e2, _⟩ := x
  exact ⟨(ne_of_none e1 n).symm, (ne_of_none e2 n).symm⟩
theorem Box.same {b : Addr} {H H' : Hp} (x : Box H b) (s : Same H H') : Box H' b := let ⟨d, e⟩ := x; ⟨d, e.same s⟩
theorem Box.ne {b p : Addr} {H : Hp} (x : Box H b) (n : H p = none) : p ≠ b := let ⟨_, e⟩ := x; (e.ne n).1
theorem Drew.same {b : Addr} {H H1 H2 : Hp} (x : Drew b H H1) (s : Same H1 H2) : Drew b H H2 := ⟨x.box.same s, fun d e => (x.dig d e).same s, fun p o n e => s _ _ (x.keep p o n e)⟩
theorem Drew.of {b : Addr} {H H' : Hp} (x : Box H b) (s : Same H H') : Drew b H H' := ⟨x.same s, fun d e => e.same s, fun p o _ e => s _ _ e⟩
theorem same_new {H : Hp} {p : Addr} {o : HO} (h : H p = none) : Same H (upd H p o) := by
  intro b x e
  rw [upd_ne (ne_of_none e h)]
  exact e
theorem small5 {n : Nat} (h : n ≤ 100000) : n < sizeLine := Nat.lt_of_le_of_lt h (by decide)
def spDraw : Sp := fun vs H Q _ => ∃ (b : Addr) (many : Int), vs = [.ref b, .int many] ∧ 0 < many ∧ Box H b ∧ ∀ (r : Int) (H' : Hp), 0 ≤ r → r < many → Drew b H H' → Q (.int r) H'
def names8 : List Str := ["a", "b", "c", "d", "e", "ab", "bc", "cd"]
def spName : Sp := fun vs H Q _ => ∃ b : Addr, vs = [.ref b] ∧ Box H b ∧ ∀ (z : Str) (H' : Hp), z ∈ names8 → Drew b H H' → Q (.str z) H'
section
variable {P : Program} {w : World} {K : PySem.W.Frag} {mg : Str → Option Value} {base : Heap} {f : Addr} {fd : FuncData}
theorem ok_law_cell (F : Fun K "_law_cell" "_law_cell" s_law_cell f fd) (z : Z mg) : FnOk P w K mg base CX0 1 f fd ["script", "k"] (spCell K) := by
  refine F.ok sc_law_cell (fun vs H Q E h => ?_) (fun cdv A outer s H vs Q E hr h => ?_)
  · obtain ⟨l, ns, k, rfl, _⟩ := h
    rfl
  · obtain ⟨l, ns, k, rfl, hs, q⟩ := h
    refine ⟨_, (pss_cons (ps_if (pt_cmpR op_lt (pv 1) (pe_callB call_len_seq (by rfl) z.len PySem.boot_len (pa_cons (pv 0) pa_nil)) (nomark _))
        (pss_one (ps_ret (pe_ix ix_list (pv 0) (pv 1) (fun _ _ => rfl))))
        pss_nil)
      (pss_one (ps_ret pe_int))), ?_⟩
    refine ⟨_, rfl, .ref l, rfl, l, ns.map V.int, rfl, .inl hs, _, _, rfl, rfl, _, rfl, ite2 (fun e => ?_) (fun e => ?_)⟩
    · have lt : k < ns.length := by
        have e := of_decide_eq_true e
        rw [List.length_map] at e
        omega
      exact ⟨.ref l, rfl, _, rfl, l, _, _, _, rfl, rfl, hs, atI_nat (j := k) (by rw [List.getElem?_map, List.getElem?_eq_getElem lt]; rfl), q _⟩
    · exact q 0
theorem ok_law_draw (F : Fun K "_law_draw" "_law_draw" s_law_draw f fd) (z : Z mg) : FnOk P w K mg base CX0 1 f fd ["box", "many"] spDraw := by
  refine F.ok sc_law_draw (fun vs H Q E h => ?_) (fun cdv A outer s H vs Q E hr h => ?_)
  · obtain ⟨b, many, rfl, _⟩ := h
    rfl
  · obtain ⟨b, many, rfl, hm, ⟨d, ds, n, hb, hd, ne, few⟩, q⟩ := h
    refine ⟨_, (pss_cons (ps_set (i := 2) sc_law_draw.nd rfl (Or.inl rfl) (pe_ix ix_list (pv 0) pe_int (fun _ _ => rfl)))
      (pss_cons (ps_asg (pe_op op_add (pv 2) pe_int) (pg_sub (pv 0) pe_int set_list))
      (pss_cons (ps_if (pt_cmpR op_lt (pv 2) (pe_callB call_len_seq (by rfl) z.len PySem.boot_len (pa_cons (pe_ix ix_list (pv 0) pe_int (fun _ _ => rfl)) pa_nil)) (nomark _))
        (pss_one (ps_ret (pe_op op_mod (pe_callTy call_int1 (by rfl) z.int (by decide +kernel) (pa_cons (pe_ix ix_list (pe_ix ix_list (pv 0) pe_int (fun _ _ => rfl)) (pv 2) (fun _ _ => rfl)) pa_nil)) (pv 1))))
        pss_nil)
      (pss_one (ps_ret (pe_op op_mod (pe_callTy call_int1 (by rfl) z.int (by decide +kernel) (pa_cons (pe_op op_add (pe_op op_mul (pv 2) pe_int) pe_int) pa_nil)) (pv 1))))))), ?_⟩
    have hB : ∀ {H : Hp} {m : Int}, H b = some (.lst [.ref d, .int m]) → SqL K H b [.ref d, .int m] := fun e => .inl (.inl e)
    -- one draw further
    refine ⟨.ref b, rfl, b, _, _, .int (n : Nat), rfl, rfl, hB hb, rfl, ?_⟩
    refine ⟨_, rfl, _, _, rfl, rfl, .ref b, rfl, b, _, _, 1, rfl, rfl, hb, rfl, ?_⟩
    have hb' : (upd H b (.lst ([.ref d, .int (n : Nat)].set 1 (.int ((n : Nat) + 1))))) b = some (.lst [.ref d, .int ((n + 1 : Nat) : Int)]) := upd_same
    have hd' : (upd H b (.lst ([.ref d, .int (n : Nat)].set 1 (.int ((n : Nat) + 1))))) d = some (.lst (ds.map V.int)) := by rw [upd_ne ne]; exact hd
    have dr : Drew b H (upd H b (.lst ([.ref d, .int (n : Nat)].set 1 (.int ((n : Nat) + 1))))) := ⟨⟨d, ds, n + 1, hb', hd', ne, few⟩, fun d' B => by
      obtain ⟨ds', n', e1, e2, ne', few'⟩ := B
      rw [hb] at e1
      cases e1
      exact ⟨ds, n + 1, hb', hd', ne, few⟩, fun p o np e => by rw [upd_ne np]; exact e⟩
    -- if at < len(box[0])
    refine ⟨_, rfl, .ref b, rfl, b, _, _, .ref d, rfl, rfl, hB hb', rfl, d, _, rfl, .inl (.inl (.inl hd')), _, _, rfl, rfl, _, rfl, ite2 (fun e => ?_) (fun e => ?_)⟩
    · have lt : n < ds.length := by
        have e := of_decide_eq_true e
        rw [List.length_map] at e
        omega
      refine ⟨.ref b, rfl, b, _, _, .ref d, rfl, rfl, hB hb', rfl, _, rfl, d, _, _, .int ds[n], rfl, rfl, .inl (.inl hd'), atI_nat (j := n) (by rw [List.getElem?_map, List.getElem?_eq_getElem lt]; rfl), .inl ⟨_, rfl, ?_⟩⟩
      exact ⟨_, rfl, _, _, rfl, rfl, hm, q _ _ (Int.emod_nonneg _ (by omega)) (Int.emod_lt_of_pos _ hm) dr⟩
    · refine ⟨_, rfl, _, _, rfl, rfl, .inr ⟨by decide, by decide⟩, _, _, rfl, rfl, .inl ⟨_, rfl, ?_⟩⟩
      exact ⟨_, rfl, _, _, rfl, rfl, hm, q _ _ (Int.emod_nonneg _ (by omega)) (Int.emod_lt_of_pos _ hm) dr⟩
theorem ok_law_digits (F : Fun K "_law_digits" "_law_digits" s_law_digits f fd) (z : Z mg) (claw_cell : Cal P w K mg base "_law_cell" 1 ["script", "k"] (spCell K)) :
    FnOk P w K mg base CX0 2 f fd ["script", "first", "last"] (spDigits K) := by
  refine F.ok sc_law_digits (fun vs H Q E h => ?_) (fun cdv A outer s H vs Q E hr h => ?_)
  · obtain ⟨l, ns, a, b, rfl, _⟩ := h
    rfl
  · obtain ⟨l, ns, a, b, rfl, hs, ha, hb, q⟩ := h
    refine ⟨_, (pss_cons (ps_set (i := 3) sc_law_digits.nd rfl (Or.inl rfl) (pe_lst pa_nil))
      (pss_cons (ps_for PassesOwn.never rfl (pi_range2 (by rfl) z.range (pa_cons (pv 1) (pa_cons (pv 2) pa_nil))) (pg_name (i := 4) sc_law_digits.nd rfl (Or.inl rfl))
        (pss_cons (ps_set (i := 5) sc_law_digits.nd rfl (Or.inl rfl) (pe_cal claw_cell (hr.mono (by decide)) (by rfl) (pa_cons (pv 0) (pa_cons (pv 4) pa_nil))))
        (pss_cons (ps_if (pt_cmpR op_lt (pv 5) pe_int (nomark _))
          (pss_one (ps_set (i := 5) sc_law_digits.nd rfl (Or.inl rfl) (pe_op op_sub pe_int (pe_op op_mul pe_int (pv 5)))))
          pss_nil)
        (pss_one (ps_if (pt_cmpR op_ge (pv 5) pe_int (nomark _))
          (pss_one (ps_for PassesOwn.never rfl (pi_range1 (by rfl) z.range (pa_cons pe_int pa_nil)) (pg_name (i := 6) sc_law_digits.nd rfl (Or.inl rfl))
            (pss_one (ps_if (pt_cmpR op_gt (pv 5) pe_int (nomark _))
              (pss_cons (ps_expr (pe_bm PySem.F.plainAttrs_list PySem.F.slot_list_append PySem.F.type_list_append mt_append (pv 3) (pa_cons (pe_op op_mod (pe_callTy call_int1 (by rfl) z.int (by decide +kernel) (pa_cons (pv 5) pa_nil)) pe_int) pa_nil)))
              (pss_one (ps_set (i := 5) sc_law_digits.nd rfl (Or.inl rfl) (pe_op op_fdiv (pv 5) pe_int))))
              pss_nil))))
          (pss_cons (ps_set (i := 7) sc_law_digits.nd rfl (Or.inl rfl) (pe_op op_mod (pe_callTy call_int1 (by rfl) z.int (by decide +kernel) (pa_cons (pe_op op_add (pe_op op_add (pe_op op_mul (pv 5) pe_int) (pe_op op_mul (pv 4) pe_int)) pe_int) pa_nil)) pe_int))
          (pss_one (ps_for PassesOwn.never rfl (pi_range1 (by rfl) z.range (pa_cons pe_int pa_nil)) (pg_name (i := 6) sc_law_digits.nd rfl (Or.inl rfl))
            (pss_cons (ps_set (i := 7) sc_law_digits.nd rfl (Or.inl rfl) (pe_op op_mod (pe_callTy call_int1 (by rfl) z.int (by decide +kernel) (pa_cons (pe_op op_add (pe_op op_add (pe_op op_mul (pv 7) pe_int) (pe_op op_mul pe_int (pv 6))) pe_int) pa_nil)) pe_int))
            (pss_one (ps_expr (pe_bm PySem.F.plainAttrs_list PySem.F.slot_list_append PySem.F.type_list_append mt_append (pv 3) (pa_cons (pe_op op_mod (pe_callTy call_int1 (by rfl) z.int (by decide +kernel) (pa_cons (pe_op op_fdiv (pv 7) pe_int) pa_nil)) pe_int) pa_nil)))))))))))))
      (pss_one (ps_ret (pv 3))))), ?_⟩
    -- digits = []
    refine ⟨Nat.zero_le _, fun D nD => ?_⟩
    -- cell by cell
    refine ⟨_, rfl, _, rfl, _, _, rfl, ⟨by omega, by omega, by omega, by omega⟩, ?_⟩
    refine for_range (lo := (a : Int)) (n := ((b : Int) - (a : Int)).toNat) (fun i σ H3 => ∃ (y4 y5 y6 y7 : Option V) (ds : List Int), σ = [some (.ref l), some (.int (a : Nat)), some (.int (b : Nat)), some (.ref D), y4, y5, y6, y7] ∧
      Same H H3 ∧ H3 D = some (.lst (ds.map V.int)) ∧ ds.length ≤ 60 * i) ⟨none, none, none, none, [], rfl, same_new nD, upd_same, Nat.zero_le _⟩ ?_ ?_
    · rintro i σ H3 hi ⟨y4, y5, y6, y7, ds, rfl, sm, hD, few⟩
      have hi' : i < 63 := by omega
      -- a cell
      refine ⟨.ref l, rfl, .int ((a : Int) + i), rfl, l, ns, a + i, by simp, sm.seq hs, fun c => ?_⟩
      have appd : ∀ {H4 : Hp} {es : List Int} (x : Int), H4 D = some (.lst (es.map V.int)) → Same H H4 → Same H (upd H4 D (.lst (es.map V.int ++ [.int x]))) := fun x e s p o q => by
        rw [upd_ne (ne_of_none q nD)]
        exact s p o q
      -- if cell < 0
      refine ⟨_, rfl, _, _, rfl, rfl, _, rfl, ite2 (fun _ => ?_) (fun _ => ?_)⟩
      · refine ⟨_, rfl, _, _, rfl, rfl, .inl ⟨by decide, by decide⟩, _, _, rfl, rfl, ?_⟩
        refine ⟨_, rfl, _, _, rfl, rfl, _, rfl, ite2 (fun _ => ?_) (fun _ => ?_)⟩
        · -- sixty turns
          refine ⟨60, rfl, by decide, by decide, ?_⟩
          refine for_range (lo := 0) (n := 60) (fun j σ H4 => ∃ (x6 x7 : Option V) (c : Int) (es : List Int), σ = [some (.ref l), some (.int (a : Nat)), some (.int (b : Nat)), some (.ref D), some (.int ((a : Int) + i)), some (.int c), x6, x7] ∧
            Same H H4 ∧ H4 D = some (.lst (es.map V.int)) ∧ es.length ≤ ds.length + j) ⟨_, _, _, ds, rfl, sm, hD, Nat.le_refl _⟩ ?_ ?_
          · rintro j σ H4 hj ⟨x6, x7, c, es, rfl, sm4, hD4, few4⟩
            refine ⟨_, rfl, _, _, rfl, rfl, _, rfl, ite2 (fun _ => ?_) (fun _ => ?_)⟩
            · refine ⟨.ref D, rfl, .inl ⟨rfl, _, .inl (.inl hD4)⟩, _, rfl, .inl ⟨_, rfl, ?_⟩⟩
              refine ⟨_, _, rfl, rfl, (by show (0 : Int) < 1000; decide), D, _, _, rfl, rfl, hD4, small5 (by rw [List.length_map]; omega), ?_⟩
              exact ⟨_, rfl, _, _, rfl, rfl, ⟨by decide, by decide⟩, _, _, _, es ++ [c % 1000], rfl, appd _ hD4 sm4, by rw [upd_same, List.map_append]; rfl, by rw [List.length_append]; simp only [List.length_singleton]; omega⟩
            · exact ⟨_, _, _, es, rfl, sm4, hD4, by omega⟩
          · rintro σ H4 ⟨x6, x7, c, es, rfl, sm4, hD4, few4⟩
            exact ⟨_, _, _, _, es, rfl, sm4, hD4, by omega⟩
        · -- twelve turns
          refine ⟨_, rfl, _, _, rfl, rfl, .inr ⟨by decide, by decide⟩, _, rfl, _, _, rfl, rfl, .inr ⟨by decide, by decide⟩, _, _, rfl, rfl, _, _, rfl, rfl, .inl ⟨_, rfl, ?_⟩⟩
          refine ⟨_, _, rfl, rfl, (by show (0 : Int) < 2147483399; decide), ?_⟩
          refine ⟨12, rfl, by decide, by decide, ?_⟩
          refine for_range (lo := 0) (n := 12) (fun j σ H4 => ∃ (x5 x6 : Option V) (c : Int) (es : List Int), σ = [some (.ref l), some (.int (a : Nat)), some (.int (b : Nat)), some (.ref D), some (.int ((a : Int) + i)), x5, x6, some (.int c)] ∧
            Same H H4 ∧ H4 D = some (.lst (es.map V.int)) ∧ es.length ≤ ds.length + j) ⟨_, _, _, ds, rfl, sm, hD, Nat.le_refl _⟩ ?_ ?_
          · rintro j σ H4 hj ⟨x5, x6, c, es, rfl, sm4, hD4, few4⟩
            refine ⟨_, rfl, _, _, rfl, rfl, .inr ⟨by decide, by decide⟩, _, rfl, _, _, rfl, rfl, .inl ⟨by decide, by decide⟩, _, _, rfl, rfl, _, _, rfl, rfl, .inl ⟨_, rfl, ?_⟩⟩
            refine ⟨_, _, rfl, rfl, (by show (0 : Int) < 2147483563; decide), ?_⟩
            refine ⟨.ref D, rfl, .inl ⟨rfl, _, .inl (.inl hD4)⟩, _, rfl, _, _, rfl, rfl, ⟨by decide, by decide⟩, .inl ⟨_, rfl, ?_⟩⟩
            refine ⟨_, _, rfl, rfl, (by show (0 : Int) < 1000; decide), D, _, _, rfl, rfl, hD4, small5 (by rw [List.length_map]; omega), ?_⟩
            exact ⟨_, _, _, es ++ [_], rfl, appd _ hD4 sm4, by rw [upd_same, List.map_append]; rfl, by rw [List.length_append]; simp only [List.length_singleton]; omega⟩
          · rintro σ H4 ⟨x5, x6, c, es, rfl, sm4, hD4, few4⟩
            exact ⟨_, _, _, _, es, rfl, sm4, hD4, by omega⟩
      · skip
        refine ⟨_, rfl, _, _, rfl, rfl, _, rfl, ite2 (fun _ => ?_) (fun _ => ?_)⟩
        · -- sixty turns
          refine ⟨60, rfl, by decide, by decide, ?_⟩
          refine for_range (lo := 0) (n := 60) (fun j σ H4 => ∃ (x6 x7 : Option V) (c : Int) (es : List Int), σ = [some (.ref l), some (.int (a : Nat)), some (.int (b : Nat)), some (.ref D), some (.int ((a : Int) + i)), some (.int c), x6, x7] ∧
            Same H H4 ∧ H4 D = some (.lst (es.map V.int)) ∧ es.length ≤ ds.length + j) ⟨_, _, _, ds, rfl, sm, hD, Nat.le_refl _⟩ ?_ ?_
          · rintro j σ H4 hj ⟨x6, x7, c, es, rfl, sm4, hD4, few4⟩
            refine ⟨_, rfl, _, _, rfl, rfl, _, rfl, ite2 (fun _ => ?_) (fun _ => ?_)⟩
            · refine ⟨.ref D, rfl, .inl ⟨rfl, _, .inl (.inl hD4)⟩, _, rfl, .inl ⟨_, rfl, ?_⟩⟩
              refine ⟨_, _, rfl, rfl, (by show (0 : Int) < 1000; decide), D, _, _, rfl, rfl, hD4, small5 (by rw [List.length_map]; omega), ?_⟩
              exact ⟨_, rfl, _, _, rfl, rfl, ⟨by decide, by decide⟩, _, _, _, es ++ [c % 1000], rfl, appd _ hD4 sm4, by rw [upd_same, List.map_append]; rfl, by rw [List.length_append]; simp only [List.length_singleton]; omega⟩
            · exact ⟨_, _, _, es, rfl, sm4, hD4, by omega⟩
          · rintro σ H4 ⟨x6, x7, c, es, rfl, sm4, hD4, few4⟩
            exact ⟨_, _, _, _, es, rfl, sm4, hD4, by omega⟩
        · -- twelve turns
          refine ⟨_, rfl, _, _, rfl, rfl, .inr ⟨by decide, by decide⟩, _, rfl, _, _, rfl, rfl, .inr ⟨by decide, by decide⟩, _, _, rfl, rfl, _, _, rfl, rfl, .inl ⟨_, rfl, ?_⟩⟩
          refine ⟨_, _, rfl, rfl, (by show (0 : Int) < 2147483399; decide), ?_⟩
          refine ⟨12, rfl, by decide, by decide, ?_⟩
          refine for_range (lo := 0) (n := 12) (fun j σ H4 => ∃ (x5 x6 : Option V) (c : Int) (es : List Int), σ = [some (.ref l), some (.int (a : Nat)), some (.int (b : Nat)), some (.ref D), some (.int ((a : Int) + i)), x5, x6, some (.int c)] ∧
            Same H H4 ∧ H4 D = some (.lst (es.map V.int)) ∧ es.length ≤ ds.length + j) ⟨_, _, _, ds, rfl, sm, hD, Nat.le_refl _⟩ ?_ ?_
          · rintro j σ H4 hj ⟨x5, x6, c, es, rfl, sm4, hD4, few4⟩
            refine ⟨_, rfl, _, _, rfl, rfl, .inr ⟨by decide, by decide⟩, _, rfl, _, _, rfl, rfl, .inl ⟨by decide, by decide⟩, _, _, rfl, rfl, _, _, rfl, rfl, .inl ⟨_, rfl, ?_⟩⟩
            refine ⟨_, _, rfl, rfl, (by show (0 : Int) < 2147483563; decide), ?_⟩
            refine ⟨.ref D, rfl, .inl ⟨rfl, _, .inl (.inl hD4)⟩, _, rfl, _, _, rfl, rfl, ⟨by decide, by decide⟩, .inl ⟨_, rfl, ?_⟩⟩
            refine ⟨_, _, rfl, rfl, (by show (0 : Int) < 1000; decide), D, _, _, rfl, rfl, hD4, small5 (by rw [List.length_map]; omega), ?_⟩
            exact ⟨_, _, _, es ++ [_], rfl, appd _ hD4 sm4, by rw [upd_same, List.map_append]; rfl, by rw [List.length_append]; simp only [List.length_singleton]; omega⟩
          · rintro σ H4 ⟨x5, x6, c, es, rfl, sm4, hD4, few4⟩
            exact ⟨_, _, _, _, es, rfl, sm4, hD4, by omega⟩
    · rintro σ H3 ⟨y4, y5, y6, y7, ds, rfl, sm, hD, few⟩
      exact ⟨.ref D, rfl, q H3 D ds sm nD hD (by omega)⟩
end
end K42

namespace K42
open PySem PySem.Spec PyProof.Rows L2 Pg
theorem seqT_same {K : PySem.W.Frag} {H H' : Hp} {a : Addr} {xs : List V} (e : Same H H') (h : SqT K H a xs) : SqT K H' a xs := by
  rcases h with (h | ⟨o, h⟩) | h
  · exact .inl (.inl (e _ _ h))
  · exact .inl (.inr ⟨o, e _ _ h⟩)
  · exact .inr h
theorem yes {σ : L2.St} {H : Hp} {Q : Bool → Hp → Prop} (h : Q true H) : tYes σ H Q := h
theorem Drew.pre {b : Addr} {H H1 H2 : Hp} (s : Same H H1) (x : Drew b H1 H2) : Drew b H H2 := ⟨x.box, fun d e => x.dig d (e.same s), fun p o n e => x.keep p o n (s _ _ e)⟩
theorem at_in {xs : List V} {r : Int} (h0 : 0 ≤ r) (h1 : r < xs.length) : ∃ v, v ∈ xs ∧ atI xs r = some v := by
  obtain ⟨j, rfl⟩ := Int.eq_ofNat_of_zero_le h0
  have lt : j < xs.length := by omega
  exact ⟨xs[j], List.getElem_mem lt, atI_nat (List.getElem?_eq_getElem lt)⟩
/-- plain signs, without the percent sign -/
def plainB (c : Nat) : Bool := decide (32 ≤ c ∧ c ≤ 126 ∧ c ≠ 37)
/-- .. and without the double quote -/
def safeB (c : Nat) : Bool := plainB c && (decide (c ≠ 34))
def Plain (z : Str) : Prop := ∀ c ∈ z.cps.toList, plainB c = true
def Safe (z : Str) : Prop := ∀ c ∈ z.cps.toList, safeB c = true
theorem Safe.plain {z : Str} (h : Safe z) : Plain z := fun c hc => (Bool.and_eq_true_iff.mp (h c hc)).1
theorem app_codes (x y : Str) : (x ++ y).cps.toList = x.cps.toList ++ y.cps.toList := by
  show (x.cps ++ y.cps).toList = _
  rw [Array.toList_append]
theorem Safe.app {x y : Str} (a : Safe x) (b : Safe y) : Safe (x ++ y) := fun c hc => by
  rw [app_codes] at hc
  rcases List.mem_append.mp hc with h | h
  · exact a c h
  · exact b c h
theorem Plain.app {x y : Str} (a : Plain x) (b : Plain y) : Plain (x ++ y) := fun c hc => by
  rw [app_codes] at hc
  rcases List.mem_append.mp hc with h | h
  · exact a c h
  · exact b c h
theorem len_app (x y : Str) : (x ++ y).length = x.length + y.length := by
  show (x.cps ++ y.cps).size = _
  rw [Array.size_append]
  rfl
theorem len_codes (z : Str) : z.length = z.cps.toList.length := by simp [Str.length]
theorem safe_of {z : Str} (h : z.cps.toList.all safeB = true) : Safe z := fun c hc => List.all_eq_true.mp h c hc
/-- the first n signs -/
theorem cut_to (z : Str) (n : Nat) : (cutS z none (some (n : Int))).cps.toList = z.cps.toList.take n := by
  unfold cutS
  rw [HT.sIx_none, show HT.sIx z.length z.length (some (n : Int)) = min n z.length from HT.sIx_nat z.length z.length n]
  show List.take (min n z.length - 0) (List.drop 0 z.cps.toList) = _
  rw [List.drop_zero, Nat.sub_zero, len_codes, List.take_eq_take_iff]
  omega
theorem sizeLine_big {n : Nat} (h : n ≤ 1000000) : n ≤ sizeLine := Nat.le_trans h (by decide)
/-- data that repr shows -/
structure Shows (d : PyData) : Prop where
  ok : d.showable = true
  nd : d.hasDict = false
  dep : d.depth ≤ 40
  sz : d.shown.length ≤ sizeLine
def spAlike (K : PySem.W.Frag) : Sp := fun vs H Q _ => ∃ (x y : V) (d e : PyData), vs = [x, y] ∧ Dp K H x d ∧ Dp K H y e ∧ Shows d ∧ Shows e ∧ Q (.bl (decide (d.shown = e.shown))) H
theorem shows_int {i : Int} (h1 : -999999999999 ≤ i) (h2 : i ≤ 999999999999) : Shows (.int i) := by
  refine ⟨?_, rfl, by show 0 ≤ 40; decide, Nat.le_trans (PyData.shown_int_le2 h1 h2) (by decide)⟩
  show decide (i.natAbs.log2 < 1920) = true
  refine decide_eq_true ?_
  by_cases z : i.natAbs = 0
  · rw [z]
    decide
  · refine (Nat.log2_lt z).mpr (Nat.lt_of_lt_of_le (show i.natAbs < 2 ^ 40 by omega) (Nat.pow_le_pow_right (n := 2) (by decide) (by decide)))
theorem shows_int2 {i j : Int} (h1 : -999999999999 ≤ i) (h2 : i ≤ 999999999999) (h3 : -999999999999 ≤ j) (h4 : j ≤ 999999999999) : Shows (.tuple [.int i, .int j]) := by
  have a := (shows_int h1 h2).ok
  have b := (shows_int h3 h4).ok
  refine ⟨?_, rfl, by show 1 ≤ 40; decide, PyData.shown_fits_bulk (B := 13) (by decide) (by decide) ?_ (by show 0 + 1 + (0 + 1 + 0) ≤ 2 ^ 20; decide)⟩
  · simp only [PyData.showable, PyData.showableAll] at a b ⊢
    rw [a, b]
    rfl
  · simp only [PyData.leavesShort, PyData.leavesShortAll, PyData.shown_int_le2 h1 h2, PyData.shown_int_le2 h3 h4, decide_true, Bool.and_true]
section
variable {P : Program} {w : World} {K : PySem.W.Frag} {mg : Str → Option Value} {base : Heap} {f : Addr} {fd : FuncData}
end
end K42

namespace K42
open PySem PySem.Spec PyProof.Rows L2 Pg
/-! ### a disk: rows of bytes, and writes that wait -/
def vI (ns : List Int) : List V := ns.map V.int
structure Dk where
  st : List (List Int)
  wt : List (Nat × List Int)
  cuts : Nat
  ahead : Option Nat
  torn : List Int
def aheadV : Option Nat → V
  | none => .non
  | some n => .int (n : Nat)
/-- so many first bytes of each waiting write -/
def storeD (st : List (List Int)) (l : List ((Nat × List Int) × Int)) : List (List Int) := l.foldl (fun st x => st.set x.1.1 (x.1.2.take x.2.toNat ++ (st.getD x.1.1 []).drop x.2.toNat)) st
def cutD (d : Dk) (torn : List Int) : Dk := ⟨storeD d.st (d.wt.zip (torn ++ List.replicate (d.wt.length - torn.length) 0)), [], d.cuts + 1, none, d.torn⟩
def flushD (d : Dk) : Dk := ⟨storeD d.st (d.wt.zip (List.replicate d.wt.length 32)), [], d.cuts, d.ahead, d.torn⟩
def readD (d : Dk) (at_ : Nat) : List Int := match d.wt.reverse.find? fun e => decide (e.1 = at_) with
  | some e => e.2
  | none => d.st.getD at_ []
/-- bytes in rows of 32 -/
structure DkOk (d : Dk) : Prop where
  rows : ∀ r ∈ d.st, r.length = 32
  few : d.st.length ≤ 400
  wait : ∀ e ∈ d.wt, e.1 < d.st.length ∧ e.2.length = 32
  wfew : d.wt.length ≤ 10000
  torn : (d.torn.all fun n => decide (0 ≤ n ∧ n ≤ 32)) = true ∧ d.torn.length ≤ 10000
def withinB (ns : List Int) (most : Int) : Bool := ns.all fun n => decide (0 ≤ n ∧ n ≤ most)
/-- where the parts of a disk stand; fp has all its places -/
structure Parts (K : PySem.W.Frag) (C : Addr) (H : Hp) (fp : Addr → Prop) (d : Dk) (p dx S W T : Addr) (ss ws : List Addr) : Prop where
  hp : H p = some (.ins C dx [(("_stored" : Str), .ref S), (("_waiting" : Str), .ref W), (("_cuts" : Str), .int (d.cuts : Nat)), (("_ahead" : Str), aheadV d.ahead), (("_torn" : Str), .ref T)])
  hS : H S = some (.lst (ss.map V.ref))
  hW : H W = some (.lst (ws.map V.ref))
  hT : H T = some (.lst (vI d.torn))
  rows : Paired (fun (a : Addr) (r : List Int) => H a = some (.lst (vI r)) ∧ fp a ∧ a ≠ S ∧ a ≠ W) ss d.st
  wait : Paired (fun (a : Addr) (e : Nat × List Int) => ∃ b, H a = some (.tup [.int (e.1 : Nat), .ref b]) ∧ H b = some (.lst (vI e.2)) ∧ fp a ∧ fp b ∧ b ≠ S ∧ b ≠ W) ws d.wt
  ne : S ≠ W ∧ S ≠ T ∧ W ≠ T
  fps : fp p ∧ fp S ∧ fp W ∧ fp T
  live : ∀ q, fp q → ∃ o, H q = some o
  ok : DkOk d
def DiskAt (K : PySem.W.Frag) (C : Addr) (H : Hp) (p : Addr) (fp : Addr → Prop) (d : Dk) : Prop := ∃ dx S W T ss ws, Parts K C H fp d p dx S W T ss ws
/-- other numbers in a disk's own fields -/
theorem Parts.fld {K : PySem.W.Frag} {C : Addr} {H : Hp} {fp : Addr → Prop} {d : Dk} {p dx S W T : Addr} {ss ws : List Addr} {fs : List (Str × V)} (x : Parts K C H fp d p dx S W T ss ws) (cu : Nat) (ah : Option Nat)
    (e : fs = [(("_stored" : Str), .ref S), (("_waiting" : Str), .ref W), (("_cuts" : Str), .int (cu : Nat)), (("_ahead" : Str), aheadV ah), (("_torn" : Str), .ref T)]) : Parts K C (upd H p (.ins C dx fs)) fp { d with cuts := cu, ahead := ah } p dx S W T ss ws := by
  have off : ∀ {q : Addr} {o : HO}, H q = some o → (∀ a b c, o ≠ .ins a b c) → upd H p (.ins C dx fs) q = some o := fun {q o} h n => by
    rw [upd_ne (fun e : q = p => by rw [e, x.hp] at h; exact n _ _ _ (Option.some.inj h).symm)]
    exact h
  refine ⟨by rw [upd_same, e], off x.hS (by intro a b c z; cases z), off x.hW (by intro a b c z; cases z), off x.hT (by intro a b c z; cases z), Paired.mapP x.rows fun a r ⟨h1, h2⟩ => ⟨off h1 (by intro a b c z; cases z), h2⟩,
    Paired.mapP x.wait fun a r ⟨b, h1, h2, h3⟩ => ⟨b, off h1 (by intro a b c z; cases z), off h2 (by intro a b c z; cases z), h3⟩, x.ne, x.fps, fun q h => ?_, ⟨x.ok.rows, x.ok.few, x.ok.wait, x.ok.wfew, x.ok.torn⟩⟩
  by_cases e2 : q = p
  · exact ⟨_, by rw [e2, upd_same]⟩
  · obtain ⟨o, ho⟩ := x.live q h
    exact ⟨o, by rw [upd_ne e2]; exact ho⟩
theorem Parts.keep {K : PySem.W.Frag} {C : Addr} {H H' : Hp} {fp : Addr → Prop} {d : Dk} {p dx S W T : Addr} {ss ws : List Addr} (x : Parts K C H fp d p dx S W T ss ws) (s : ∀ q o, fp q → H q = some o → H' q = some o) : Parts K C H' fp d p dx S W T ss ws :=
  ⟨s _ _ x.fps.1 x.hp, s _ _ x.fps.2.1 x.hS, s _ _ x.fps.2.2.1 x.hW, s _ _ x.fps.2.2.2 x.hT, Paired.mapP x.rows fun _ _ ⟨a, b, c⟩ => ⟨s _ _ b a, b, c⟩, Paired.mapP x.wait fun _ _ ⟨b, h1, h2, h3, h4, h5⟩ => ⟨b, s _ _ h3 h1, s _ _ h4 h2, h3, h4, h5⟩, x.ne, x.fps, fun q h => let ⟨o, e⟩ := x.live q h; ⟨o, s _ _ h e⟩, x.ok⟩
theorem DiskAt.keep {K : PySem.W.Frag} {C : Addr} {H H' : Hp} {p : Addr} {fp : Addr → Prop} {d : Dk} (x : DiskAt K C H p fp d) (s : ∀ q o, fp q → H q = some o → H' q = some o) : DiskAt K C H' p fp d :=
  let ⟨dx, S, W, T, ss, ws, x⟩ := x; ⟨dx, S, W, T, ss, ws, x.keep s⟩
theorem DiskAt.same {K : PySem.W.Frag} {C : Addr} {H H' : Hp} {p : Addr} {fp : Addr → Prop} {d : Dk} (x : DiskAt K C H p fp d) (s : Same H H') : DiskAt K C H' p fp d := x.keep fun q o _ e => s q o e
theorem DiskAt.live {K : PySem.W.Frag} {C : Addr} {H : Hp} {p : Addr} {fp : Addr → Prop} {d : Dk} (x : DiskAt K C H p fp d) {q : Addr} (h : H q = none) : ¬ fp q := fun f => by
  obtain ⟨dx, S, W, T, ss, ws, x⟩ := x
  obtain ⟨o, e⟩ := x.live q f
  rw [h] at e
  cases e
/-- all but a disk is as it was; its places are its old ones and new ones -/
structure ChD (fp fp' : Addr → Prop) (H H' : Hp) : Prop where
  keep : ∀ q o, ¬ fp q → H q = some o → H' q = some o
  new : ∀ q, fp' q → fp q ∨ H q = none
  mono : ∀ q, fp q → fp' q
theorem ChD.same {fp fp' : Addr → Prop} {H H1 H2 : Hp} (c : ChD fp fp' H H1) (s : Same H1 H2) : ChD fp fp' H H2 := ⟨fun q o n e => s _ _ (c.keep q o n e), c.new, c.mono⟩
theorem ChD.of {fp : Addr → Prop} {H H' : Hp} (s : Same H H') : ChD fp fp H H' := ⟨fun q o _ e => s _ _ e, fun q h => .inl h, fun q h => h⟩
theorem ChD.pre {fp fp' : Addr → Prop} {H H1 H2 : Hp} (s : Same H H1) (c : ChD fp fp' H1 H2) : ChD fp fp' H H2 := ⟨fun q o n e => c.keep q o n (s _ _ e), fun q h => (c.new q h).imp id fun e => (by
  cases w : H q with
  | none => rfl
  | some o => rw [s _ _ w] at e; cases e), c.mono⟩
theorem ChD.trans {fp fp1 fp2 : Addr → Prop} {H H1 H2 : Hp} (a : ChD fp fp1 H H1) (b : ChD fp1 fp2 H1 H2) : ChD fp fp2 H H2 := by
  refine ⟨fun q o n e => b.keep q o (fun f => ?_) (a.keep q o n e), fun q h => ?_, fun q h => b.mono q (a.mono q h)⟩
  · rcases a.new q f with h | h
    · exact n h
    · rw [e] at h; cases h
  · rcases b.new q h with h | h
    · exact a.new q h
    · by_cases f : fp q
      · exact .inl f
      · right
        cases w : H q with
        | none => rfl
        | some o => rw [a.keep q o f w] at h; cases h
/-- one more place -/
theorem ChD.grow {fp fp' : Addr → Prop} {H H1 H2 : Hp} {a : Addr} (c : ChD fp fp' H H1) (live : ∀ q, fp' q → ∃ o, H1 q = some o) (na : H1 a = none) (k : ∀ q o, ¬ fp q → H1 q = some o → H2 q = some o) : ChD fp (fun q => fp' q ∨ q = a) H H2 := by
  refine ⟨fun q o n e => k q o n (c.keep q o n e), fun q h => ?_, fun q h => .inl (c.mono q h)⟩
  rcases h with h | h
  · exact c.new q h
  · rw [h]
    by_cases f : fp a
    · obtain ⟨o, e⟩ := live a (c.mono a f)
      rw [na] at e; cases e
    · right
      cases w : H a with
      | none => rfl
      | some o => rw [c.keep a o f w] at na; cases na
/-! ### what the disk's defs promise -/
def outE (o : Addr) (z : Str) (E : XK) (H : Hp) : Prop := ∀ (dd : Addr) (H' : Hp), Same H H' → H' dd = some (.xd [(("name" : Str), .str z)]) → E (.ref o) (some dd) H'
def spWithin : Sp := fun vs H Q _ => ∃ (l : Addr) (ns : List Int) (most : Int), vs = [.ref l, .int most] ∧ H l = some (.lst (vI ns)) ∧ ns.length ≤ 100000 ∧ ∀ H', Same H H' → Q (.bl (withinB ns most)) H'
def spCheckTorn (o : Addr) : Sp := fun vs H Q E => ∃ (l : Addr) (ns : List Int), vs = [.ref l] ∧ H l = some (.lst (vI ns)) ∧ ns.length ≤ 100000 ∧ (withinB ns 32 = true → ∀ H', Same H H' → Q .non H') ∧ (withinB ns 32 = false → outE o "torn" E H)
def spDSize (K : PySem.W.Frag) (C : Addr) : Sp := fun vs H Q _ => ∃ (p : Addr) (fp : Addr → Prop) (d : Dk), vs = [.ref p] ∧ DiskAt K C H p fp d ∧ Q (.int (d.st.length : Nat)) H
def spDPend (K : PySem.W.Frag) (C : Addr) : Sp := fun vs H Q _ => ∃ (p : Addr) (fp : Addr → Prop) (d : Dk), vs = [.ref p] ∧ DiskAt K C H p fp d ∧ Q (.int (d.wt.length : Nat)) H
def spDCuts (K : PySem.W.Frag) (C : Addr) : Sp := fun vs H Q _ => ∃ (p : Addr) (fp : Addr → Prop) (d : Dk), vs = [.ref p] ∧ DiskAt K C H p fp d ∧ Q (.int (d.cuts : Nat)) H
def atB (d : Dk) (i : Int) : Bool := decide (0 ≤ i ∧ i < (d.st.length : Nat))
def spDCheckAt (K : PySem.W.Frag) (C o : Addr) : Sp := fun vs H Q E => ∃ (p : Addr) (fp : Addr → Prop) (d : Dk) (i : Int), vs = [.ref p, .int i] ∧ DiskAt K C H p fp d ∧ (atB d i = true → Q .non H) ∧ (atB d i = false → outE o "at" E H)
section
variable {P : Program} {w : World} {K : PySem.W.Frag} {mg : Str → Option Value} {base : Heap} {f CDisk oC oI pwC : Addr} {fd : FuncData}
theorem ok_are_within (F : Fun K "_are_within" "_are_within" s_are_within f fd) (z : Z mg) : FnOk P w K mg base CX0 1 f fd ["numbers", "most"] spWithin := by
  refine F.ok sc_are_within (fun vs H Q E h => ?_) (fun cdv A outer s H vs Q E hr h => ?_)
  · obtain ⟨l, ns, most, rfl, _⟩ := h
    rfl
  · obtain ⟨l, ns, most, rfl, hl, few, q⟩ := h
    refine ⟨_, (pss_one (ps_ret (pe_callB (cr_all rfl) (by rfl) z.all (by decide +kernel) (pa_cons (pe_lc (own := [("number", 2)]) (g := (gName 2)) (tt := tYes) rfl sc_are_within.nd (pi_list (pv 0)) (blkOk_by (own := [("number", 2)]) (N := ["numbers", "most", "number"]) (sc := defScope s_are_within) (by decide +kernel)) (fun _ _ _ _ _ => pg_name (i := 2) sc_are_within.nd rfl (Or.inl rfl)) (fun _ _ _ _ _ => pts_nil) (fun _ _ _ _ _ => (pe_chain op_le op_le pe_int (pv 2) (pv 1)))) pa_nil)))), ?_⟩
    refine ⟨.ref l, rfl, l, rfl, ⟨_, .inl (.inl hl)⟩, fun D nD => ?_⟩
    refine lc_map (K := K) (a := l) (xs := vI ns) (fun v => V.bl (match v with | .int i => decide (0 ≤ i ∧ i ≤ most) | _ => false)) nD (.inl (.inl hl)) (small5 (by unfold vI; rw [List.length_map]; exact few)) ?_ ?_
    · intro i x H4 R S hx s4 hR
      obtain ⟨n, hn, rfl⟩ : ∃ n, ns[i]? = some n ∧ x = V.int n := by
        unfold vI at hx
        rw [List.getElem?_map] at hx
        cases e : ns[i]? with
        | none => rw [e] at hx; cases hx
        | some n => rw [e] at hx; exact ⟨n, rfl, (Option.some.inj hx).symm⟩
      have hR : R (V.bl (decide (0 ≤ n ∧ n ≤ most))) H4 := hR
      refine ⟨rfl, yes (iteT ⟨_, rfl, _, _, rfl, rfl, _, rfl, ite2 (fun e => ⟨_, rfl, _, _, rfl, rfl, ?_⟩) (fun e => ?_)⟩)⟩
      · have e1 := of_decide_eq_true e
        have : decide (0 ≤ n ∧ n ≤ most) = decide (n ≤ most) := by
          by_cases h : n ≤ most
          · rw [decide_eq_true h, decide_eq_true ⟨e1, h⟩]
          · rw [decide_eq_false h, decide_eq_false fun z => h z.2]
        rw [this] at hR
        exact hR
      · rw [decide_eq_false (fun z : 0 ≤ n ∧ n ≤ most => e (decide_eq_true z.1))] at hR
        exact hR
    · have al : ((vI ns).map fun v => V.bl (match v with | .int i => decide (0 ≤ i ∧ i ≤ most) | _ => false)) = (ns.map fun n => decide (0 ≤ n ∧ n ≤ most)).map V.bl := by
        unfold vI
        rw [List.map_map, List.map_map]
        rfl
      rw [al]
      refine ⟨D, _, rfl, .inl (.inl upd_same), ?_⟩
      have e : (ns.map fun n => decide (0 ≤ n ∧ n ≤ most)).all id = withinB ns most := by
        rw [List.all_map]
        rfl
      rw [e]
      exact q _ (same_new nD)
theorem ok_check_torn (F : Fun K "_check_torn" "_check_torn" s_check_torn f fd) (z : Z mg) (oor : PySem.OorX.OorTxt P K mg oC oI) (care_within : Cal P w K mg base "_are_within" 1 ["numbers", "most"] spWithin) : FnOk P w K mg base (L2.CX P w) 5 f fd ["torn"] (spCheckTorn oC) := by
  refine F.okX sc_check_torn (fun vs H Q E h => ?_) (fun cdv A outer s H vs Q E hr h => ?_)
  · obtain ⟨l, ns, rfl, _⟩ := h
    rfl
  · obtain ⟨l, ns, rfl, hl, few, q1, q2⟩ := h
    refine ⟨_, (pss_one (ps_if (pt_not (pt_val (pe_cal care_within (hr.mono (by decide)) (by rfl) (pa_cons (pv 0) (pa_cons (pe_cI (by rfl) z.c_BLOCK) pa_nil)))))
        (pss_one (ps_raiseOor rfl oor hr (takes_of rfl rfl rfl rfl) (pa_cons pe_str pa_nil)))
        pss_nil)), ?_⟩
    refine ⟨_, rfl, l, ns, 32, rfl, hl, few, fun H1 s1 => ⟨_, rfl, ?_⟩⟩
    cases e : withinB ns 32 with
    | true => exact iteF (q1 e H1 s1)
    | false => exact iteT ⟨_, rfl, by decide, fun d nd => q2 e d _ (s1.trans (same_new nd)) upd_same⟩
theorem ok_Disk_size (F : Fun K "size" "Disk.size" s_Disk_size f fd) (z : Z mg) (T : T_Disk K mg CDisk) : FnOk P w K mg base CX0 1 f fd ["self"] (spDSize K CDisk) := by
  refine F.ok sc_Disk_size (fun vs H Q E h => ?_) (fun cdv A outer s H vs Q E hr h => ?_)
  · obtain ⟨p, fp, d, rfl, _⟩ := h
    rfl
  · obtain ⟨p, fp, d, rfl, ⟨dx, S, W, T1, ss, ws, x⟩, q⟩ := h
    refine ⟨_, (pss_one (ps_ret (pe_callB call_len_seq (by rfl) z.len PySem.boot_len (pa_cons (pe_fld (pv 0) rfl) pa_nil)))), ?_⟩
    have e : (ss.map V.ref).length = d.st.length := by rw [List.length_map, pair_len x.rows]
    refine ⟨_, rfl, p, CDisk, dx, _, _, rfl, x.hp, T.cl, T.n_stored, rfl, S, _, rfl, .inl (.inl (.inl x.hS)), ?_⟩
    rw [e]
    exact q
theorem ok_Disk_pending_count (F : Fun K "pending_count" "Disk.pending_count" s_Disk_pending_count f fd) (z : Z mg) (T : T_Disk K mg CDisk) : FnOk P w K mg base CX0 1 f fd ["self"] (spDPend K CDisk) := by
  refine F.ok sc_Disk_pending_count (fun vs H Q E h => ?_) (fun cdv A outer s H vs Q E hr h => ?_)
  · obtain ⟨p, fp, d, rfl, _⟩ := h
    rfl
  · obtain ⟨p, fp, d, rfl, ⟨dx, S, W, T1, ss, ws, x⟩, q⟩ := h
    refine ⟨_, (pss_one (ps_ret (pe_callB call_len_seq (by rfl) z.len PySem.boot_len (pa_cons (pe_fld (pv 0) rfl) pa_nil)))), ?_⟩
    have e : (ws.map V.ref).length = d.wt.length := by rw [List.length_map, pair_len x.wait]
    refine ⟨_, rfl, p, CDisk, dx, _, _, rfl, x.hp, T.cl, T.n_waiting, rfl, W, _, rfl, .inl (.inl (.inl x.hW)), ?_⟩
    rw [e]
    exact q
theorem ok_Disk_cut_count (F : Fun K "cut_count" "Disk.cut_count" s_Disk_cut_count f fd) (z : Z mg) (T : T_Disk K mg CDisk) : FnOk P w K mg base CX0 1 f fd ["self"] (spDCuts K CDisk) := by
  refine F.ok sc_Disk_cut_count (fun vs H Q E h => ?_) (fun cdv A outer s H vs Q E hr h => ?_)
  · obtain ⟨p, fp, d, rfl, _⟩ := h
    rfl
  · obtain ⟨p, fp, d, rfl, ⟨dx, S, W, T1, ss, ws, x⟩, q⟩ := h
    refine ⟨_, (pss_one (ps_ret (pe_fld (pv 0) rfl))), ?_⟩
    exact ⟨_, rfl, p, CDisk, dx, _, _, rfl, x.hp, T.cl, T.n_cuts, rfl, q⟩
theorem ok_Disk_check_at (F : Fun K "_check_at" "Disk._check_at" s_Disk_check_at f fd) (z : Z mg) (T : T_Disk K mg CDisk) (oor : PySem.OorX.OorTxt P K mg oC oI) : FnOk P w K mg base (L2.CX P w) 5 f fd ["self", "at"] (spDCheckAt K CDisk oC) := by
  refine F.okX sc_Disk_check_at (fun vs H Q E h => ?_) (fun cdv A outer s H vs Q E hr h => ?_)
  · obtain ⟨p, fp, d, i, rfl, _⟩ := h
    rfl
  · obtain ⟨p, fp, d, i, rfl, ⟨dx, S, W, T1, ss, ws, x⟩, q1, q2⟩ := h
    refine ⟨_, (pss_one (ps_if (pt_not (pt_chain op_le op_lt pe_int (pv 1) (pe_callB call_len_seq (by rfl) z.len PySem.boot_len (pa_cons (pe_fld (pv 0) rfl) pa_nil))))
        (pss_one (ps_raiseOor rfl oor hr (takes_of rfl rfl rfl rfl) (pa_cons pe_str pa_nil)))
        pss_nil)), ?_⟩
    have el : (ss.map V.ref).length = d.st.length := by rw [List.length_map, pair_len x.rows]
    refine ⟨_, rfl, _, _, rfl, rfl, _, rfl, ite2 (fun e => ?_) (fun e => ?_)⟩
    · refine ⟨_, rfl, p, CDisk, dx, _, _, rfl, x.hp, T.cl, T.n_stored, rfl, S, _, rfl, .inl (.inl (.inl x.hS)), _, _, rfl, rfl, _, rfl, ?_⟩
      rw [el]
      have e1 := of_decide_eq_true e
      refine ite2 (fun e2 => ?_) (fun e2 => ?_)
      · refine ⟨_, rfl, by decide, fun dd nd => q2 (decide_eq_false fun h => ?_) dd _ (same_new nd) upd_same⟩
        have e2 : (!decide (i < (d.st.length : Nat))) = true := e2
        rw [decide_eq_true h.2] at e2
        cases e2
      · refine q1 (decide_eq_true ⟨e1, ?_⟩)
        have e2 : ¬ (!decide (i < (d.st.length : Nat))) = true := e2
        simpa using e2
    · exact ⟨_, rfl, iteT ⟨_, rfl, by decide, fun dd nd => q2 (decide_eq_false fun h => e (decide_eq_true h.1)) dd _ (same_new nd) upd_same⟩⟩
end
end K42

namespace K42
open PySem PySem.Spec PyProof.Rows L2 Pg
/-- one row of a disk is another, new one -/
theorem Parts.row {K : PySem.W.Frag} {C : Addr} {H : Hp} {fp : Addr → Prop} {d : Dk} {p dx S W T c : Addr} {ss ws : List Addr} {i : Nat} {r r0 : List Int} (x : Parts K C H fp d p dx S W T ss ws) (hc : H c = some (.lst (vI r))) (nc : ¬ fp c) (hi : d.st[i]? = some r0) (hr : r.length = 32) :
    Parts K C (upd H S (.lst ((ss.map V.ref).set i (.ref c)))) (fun q => fp q ∨ q = c) { d with st := d.st.set i r } p dx S W T (ss.set i c) ws := by
  have cS : c ≠ S := fun e => nc (by rw [e]; exact x.fps.2.1)
  have cW : c ≠ W := fun e => nc (by rw [e]; exact x.fps.2.2.1)
  have off : ∀ {q : Addr} {o : HO}, q ≠ S → H q = some o → upd H S (.lst ((ss.map V.ref).set i (.ref c))) q = some o := fun {q o} n e => by rw [upd_ne n]; exact e
  refine ⟨off (ne_of x.hp x.hS (by intro z; cases z)) x.hp, ?_, off (Ne.symm x.ne.1) x.hW, off (Ne.symm x.ne.2.1) x.hT, ?_, ?_, x.ne, ⟨.inl x.fps.1, .inl x.fps.2.1, .inl x.fps.2.2.1, .inl x.fps.2.2.2⟩, fun q h => ?_, ⟨fun r1 h1 => ?_, ?_, fun e he => ?_, x.ok.wfew, x.ok.torn⟩⟩
  · rw [upd_same, ← List.map_set]
  · refine pair_set i (Paired.mapP x.rows fun a r1 ⟨h1, h2, h3, h4⟩ => ⟨off h3 h1, .inl h2, h3, h4⟩) ⟨off cS hc, .inr rfl, cS, cW⟩
  · exact Paired.mapP x.wait fun a e ⟨b, h1, h2, h3, h4, h5, h6⟩ => ⟨b, off (ne_of h1 x.hS (by intro z; cases z)) h1, off h5 h2, .inl h3, .inl h4, h5, h6⟩
  · by_cases e : q = S
    · exact ⟨_, by rw [e, upd_same]⟩
    · rcases h with h | h
      · obtain ⟨o, ho⟩ := x.live q h
        exact ⟨o, off e ho⟩
      · rw [h] at e ⊢
        exact ⟨_, off e hc⟩
  · rcases List.mem_or_eq_of_mem_set h1 with h | h
    · exact x.ok.rows r1 h
    · rw [h]; exact hr
  · show (d.st.set i r).length ≤ 400
    rw [List.length_set]
    exact x.ok.few
  · obtain ⟨h1, h2⟩ := x.ok.wait e he
    refine ⟨?_, h2⟩
    show e.1 < (d.st.set i r).length
    rw [List.length_set]
    exact h1
theorem storeD_snoc (st : List (List Int)) (l : List ((Nat × List Int) × Int)) (x : (Nat × List Int) × Int) : storeD st (l ++ [x]) = (storeD st l).set x.1.1 (x.1.2.take x.2.toNat ++ ((storeD st l).getD x.1.1 []).drop x.2.toNat) := by
  unfold storeD
  rw [List.foldl_append]
  rfl
theorem storeD_len (l : List ((Nat × List Int) × Int)) : ∀ st : List (List Int), (storeD st l).length = st.length := by
  induction l with
  | nil => intro st; rfl
  | cons x r ih =>
    intro st
    show (storeD (st.set x.1.1 _) r).length = st.length
    rw [ih, List.length_set]
theorem cutV_toI (xs : List V) {i : Int} (h : 0 ≤ i) : cutV xs none (some i) = xs.take i.toNat := by
  obtain ⟨n, rfl⟩ := Int.eq_ofNat_of_zero_le h
  exact cutV_up xs n
theorem cutV_fromI (xs : List V) {i : Int} (h : 0 ≤ i) : cutV xs (some i) none = xs.drop i.toNat := by
  obtain ⟨n, rfl⟩ := Int.eq_ofNat_of_zero_le h
  exact cut_n_ xs n
def spDStore (K : PySem.W.Frag) (C : Addr) : Sp := fun vs H Q _ => ∃ (p L : Addr) (fp : Addr → Prop) (d : Dk) (ls : List Int), vs = [.ref p, .ref L] ∧ DiskAt K C H p fp d ∧ H L = some (.lst (vI ls)) ∧ ¬ fp L ∧ d.wt.length ≤ ls.length ∧ (∀ x ∈ ls, 0 ≤ x ∧ x ≤ 32) ∧
  ∀ (H' : Hp) (fp' : Addr → Prop), ChD fp fp' H H' → DiskAt K C H' p fp' { d with st := storeD d.st (d.wt.zip ls), wt := [] } → Q .non H'
section
variable {P : Program} {w : World} {K : PySem.W.Frag} {mg : Str → Option Value} {base : Heap} {f CDisk oC oI pwC : Addr} {fd : FuncData}
theorem ok_Disk_store (F : Fun K "_store" "Disk._store" s_Disk_store f fd) (z : Z mg) (T : T_Disk K mg CDisk) : FnOk P w K mg base CX0 1 f fd ["self", "lengths"] (spDStore K CDisk) := by
  refine F.ok sc_Disk_store (fun vs H Q E h => ?_) (fun cdv A outer s H vs Q E hr h => ?_)
  · obtain ⟨p, L, fp, d, ls, rfl, _⟩ := h
    rfl
  · obtain ⟨p, L, fp, d, ls, rfl, ⟨dx, S, W, T1, ss, ws, x⟩, hL, nL, len, lim, q⟩ := h
    refine ⟨_, (pss_cons (ps_for PassesOwn.never rfl (RZ.pi_zipA (by rfl) z.zip (pa_cons (pe_fld (pv 0) rfl) (pa_cons (pv 1) pa_nil))) (pg_tup rfl (pgs_cons (pg_tup rfl (pgs_cons (pg_name (i := 2) sc_Disk_store.nd rfl (Or.inl rfl)) (pgs_cons (pg_name (i := 3) sc_Disk_store.nd rfl (Or.inl rfl)) pgs_nil))) (pgs_cons (pg_name (i := 4) sc_Disk_store.nd rfl (Or.inl rfl)) pgs_nil)))
        (pss_one (ps_asg (pe_op op_cat (pe_slice sl_list (pv 3) po_none (po_some (pv 4))) (pe_slice sl_list (pe_ix ix_list (pe_fld (pv 0) rfl) (pv 2) (fun _ _ => rfl)) (po_some (pv 4)) po_none)) (pg_sub (pe_fld (pv 0) rfl) (pv 2) set_list))))
      (pss_one (ps_fld (pv 0) (pe_lst pa_nil) rfl))), ?_⟩
    have lw : ws.length = d.wt.length := pair_len x.wait
    refine ⟨_, rfl, p, CDisk, dx, _, _, rfl, x.hp, T.cl, T.n_waiting, rfl, _, rfl, W, L, _, _, rfl, .inl ⟨.inl (.inl x.hW), .inl (.inl hL), ?_⟩⟩
    refine for_zipM (K := K) (a := W) (b := L) (xs := ws.map V.ref) (ys := vI ls) (by unfold vI; rw [List.length_map, List.length_map, lw]; exact len)
      (fun i σ H3 => ∃ (y2 y3 y4 : Option V) (ss' : List Addr) (fp' : Addr → Prop), σ = [some (.ref p), some (.ref L), y2, y3, y4] ∧ Parts K CDisk H3 fp' { d with st := storeD d.st ((d.wt.zip ls).take i) } p dx S W T1 ss' ws ∧ ChD fp fp' H H3 ∧ H3 L = some (.lst (vI ls)) ∧ ¬ fp' L)
      ⟨_, _, _, ss, fp, rfl, x, .of (Same.refl _), hL, nL⟩ (fun i σ H3 ⟨_, _, _, _, _, _, x', _, h', _⟩ => ⟨.inl (.inl x'.hW), .inl (.inl h')⟩) ?_ ?_
    · rintro i v y tt σ H3 hv hy ⟨y2, y3, y4, ss', fp', rfl, x3, c3, hL3, nL3⟩ nT
      obtain ⟨wa, hwa, rfl⟩ : ∃ a, ws[i]? = some a ∧ v = V.ref a := by
        rw [List.getElem?_map] at hv
        cases e : ws[i]? with
        | none => rw [e] at hv; cases hv
        | some a => rw [e] at hv; exact ⟨a, rfl, (Option.some.inj hv).symm⟩
      obtain ⟨ln, hln, rfl⟩ : ∃ n, ls[i]? = some n ∧ y = V.int n := by
        unfold vI at hy
        rw [List.getElem?_map] at hy
        cases e : ls[i]? with
        | none => rw [e] at hy; cases hy
        | some n => rw [e] at hy; exact ⟨n, rfl, (Option.some.inj hy).symm⟩
      obtain ⟨l0, l32⟩ := lim ln (List.mem_of_getElem? hln)
      have sT := same_new (o := .tup [V.ref wa, .int ln]) nT
      have x4 := x3.keep (fun q o _ e => sT q o e)
      obtain ⟨⟨at_, blk⟩, he, b, hb1, hb2, _, fb, bS, bW⟩ := pair_left x4.wait hwa
      have hb1 : _ = some (HO.tup [V.int (at_ : Nat), .ref b]) := hb1
      have hb2 : _ = some (HO.lst (vI blk)) := hb2
      obtain ⟨alt, blen⟩ := x.ok.wait (at_, blk) (List.mem_of_getElem? he)
      have alt : at_ < d.st.length := alt
      have blen : blk.length = 32 := blen
      have alt4 : at_ < (storeD d.st ((d.wt.zip ls).take i)).length := by rw [storeD_len]; exact alt
      obtain ⟨sa, hsa, hr1, fr, rS, rW⟩ := pair_at x4.rows (List.getElem?_eq_getElem alt4)
      have rlen := x4.ok.rows _ (List.getElem_mem alt4)
      have eget : (storeD d.st ((d.wt.zip ls).take i)).getD at_ [] = (storeD d.st ((d.wt.zip ls).take i))[at_] := by
        rw [List.getD_eq_getElem?_getD, List.getElem?_eq_getElem alt4]
        rfl
      refine ⟨tt, _, rfl, .inl (.inl upd_same), rfl, _, _, rfl, wa, _, rfl, .inl (.inl hb1), rfl, _, _, rfl, _, _, rfl, rfl, _, _, rfl, rfl, ?_⟩
      have nxt : (d.wt.zip ls).take (i + 1) = (d.wt.zip ls).take i ++ [((at_, blk), ln)] := by
        rw [List.take_add_one]
        congr 1
        rw [show (d.wt.zip ls)[i]? = some ((at_, blk), ln) from List.getElem?_zip_eq_some.mpr ⟨he, hln⟩]
        rfl
      have hL4 := sT _ _ hL3
      have c4 := c3.same sT
      generalize upd H3 tt (.tup [.ref wa, .int ln]) = H4 at sT x4 hb1 hb2 hr1 hL4 c4 ⊢
      generalize hst : storeD d.st ((d.wt.zip ls).take i) = st at x4 alt4 hr1 rlen eget nxt ⊢
      refine ⟨_, rfl, _, rfl, ln, rfl, b, _, rfl, .inl (.inl hb2), fun c1 n1 => ?_⟩
      rw [cutV_toI _ l0]
      have s1 := same_new (o := .lst ((vI blk).take ln.toNat)) n1
      refine ⟨_, rfl, p, CDisk, dx, _, _, rfl, s1 _ _ x4.hp, T.cl, T.n_stored, rfl, _, rfl, S, _, _, .ref sa, rfl, rfl, .inl (.inl (s1 _ _ x4.hS)), atI_nat (by rw [List.getElem?_map, hsa]; rfl), _, rfl, ln, rfl, sa, _, rfl, .inl (.inl (s1 _ _ hr1)), fun c2 n2 => ?_⟩
      rw [cutV_fromI _ l0]
      have s2 := same_new (o := .lst ((vI (st[at_]'alt4)).drop ln.toNat)) n2
      have lenA : ((vI blk).take ln.toNat).length + ((vI (st[at_]'alt4)).drop ln.toNat).length = 32 := by
        unfold vI
        rw [List.length_take, List.length_drop, List.length_map, List.length_map, blen, rlen]
        omega
      refine ⟨c1, c2, _, _, rfl, rfl, s2 _ _ upd_same, upd_same, by rw [lenA]; decide, fun c3' n3 => ?_⟩
      have eR : (vI blk).take ln.toNat ++ (vI (st[at_]'alt4)).drop ln.toNat = vI (blk.take ln.toNat ++ (st[at_]'alt4).drop ln.toNat) := by
        unfold vI
        rw [List.map_append, List.map_take, List.map_drop]
      rw [eR]
      have s3 := same_new (o := .lst (vI (blk.take ln.toNat ++ (st[at_]'alt4).drop ln.toNat))) n3
      have s6 := s1.trans s2
      have x6 := x4.keep (fun q o _ e => s6 q o e)
      have x7 := x6.keep (fun q o _ e => s3 q o e)
      have nf : ¬ fp' c3' := fun h => by
        obtain ⟨o, e⟩ := x6.live c3' h
        rw [n3] at e; cases e
      refine ⟨_, rfl, p, CDisk, dx, _, _, rfl, x7.hp, T.cl, T.n_stored, rfl, _, rfl, S, _, _, at_, rfl, rfl, x7.hS, ixN_at (by rw [List.length_map, pair_len x7.rows]; exact alt4), ?_⟩
      have rl : (blk.take ln.toNat ++ (st[at_]'alt4).drop ln.toNat).length = 32 := by
        rw [List.length_append, List.length_take, List.length_drop, blen, rlen]
        omega
      have fS := x.fps.2.1
      refine ⟨_, _, _, ss'.set at_ c3', _, rfl, ?_, (c4.same s6).grow x6.live n3 (fun q o n e => ?_), ?_, fun h => ?_⟩
      · rw [nxt, storeD_snoc, hst]
        show Parts K CDisk _ _ { d with st := st.set at_ (blk.take ln.toNat ++ (st.getD at_ []).drop ln.toNat) } p dx S W T1 _ ws
        rw [eget]
        exact x7.row (d := { d with st := st }) upd_same nf (List.getElem?_eq_getElem alt4) rl
      · rw [upd_ne (fun h : q = S => n (by rw [h]; exact fS))]
        exact s3 _ _ e
      · rw [upd_ne (fun h : L = S => nL (by rw [h]; exact fS))]
        exact s3 _ _ (s6 _ _ hL4)
      · rcases h with h | h
        · exact nL3 h
        · exact ne_of_none (s6 _ _ hL4) n3 h
    · rintro σ H3 ⟨y2, y3, y4, ss', fp', rfl, x3, c3, hL3, nL3⟩
      have et : (d.wt.zip ls).take (ws.map V.ref).length = d.wt.zip ls := List.take_of_length_le (by rw [List.length_zip, List.length_map, lw]; exact Nat.min_le_left _ _)
      rw [et] at x3
      -- nothing waits
      refine ⟨Nat.zero_le _, fun W2 nW2 => ⟨_, rfl, p, CDisk, dx, _, rfl, same_new nW2 _ _ x3.hp, T.cl, T.n_waiting, by show 5 < 1000; decide, ?_⟩⟩
      have sW := same_new (o := .lst []) nW2
      have x4 := x3.keep (fun q o _ e => sW q o e)
      have nf : ¬ fp' W2 := fun h => by
        obtain ⟨o, e⟩ := x3.live W2 h
        rw [nW2] at e; cases e
      have pW : p ≠ W2 := fun e => nf (by rw [← e]; exact x3.fps.1)
      have off : ∀ {q : Addr} {o o' : HO}, q ≠ p → upd H3 W2 (.lst []) q = some o → upd (upd H3 W2 (.lst [])) p o' q = some o := fun {q o o'} n e => by rw [upd_ne n]; exact e
      refine q _ (fun q => fp' q ∨ q = W2) (c3.grow x3.live nW2 fun q o n e => ?_) ⟨dx, S, W2, T1, ss', [], ⟨?_, off (ne_of x4.hS x4.hp (by intro z; cases z)) x4.hS, off pW.symm upd_same, off (ne_of x4.hT x4.hp (by intro z; cases z)) x4.hT, Paired.mapP x4.rows fun a r ⟨h1, h2, h3, h4⟩ => ⟨off (ne_of h1 x4.hp (by intro z; cases z)) h1, .inl h2, h3, fun e => nf (by rw [← e]; exact h2)⟩,
        .nil, ⟨fun e => nf (by rw [← e]; exact x3.fps.2.1), x3.ne.2.1, fun e => nf (by rw [e]; exact x3.fps.2.2.2)⟩, ⟨.inl x3.fps.1, .inl x3.fps.2.1, .inr rfl, .inl x3.fps.2.2.2⟩, fun q h => ?_, ⟨x3.ok.rows, x3.ok.few, fun e h => (by cases h), Nat.zero_le _, x3.ok.torn⟩⟩⟩
      · rw [upd_ne (fun h : q = p => n (by rw [h]; exact x.fps.1))]
        exact sW _ _ e
      · rw [upd_same]
        rfl
      · by_cases e : q = p
        · exact ⟨_, by rw [e, upd_same]⟩
        · rcases h with h | h
          · obtain ⟨o, ho⟩ := x4.live q h
            exact ⟨o, off e ho⟩
          · rw [h] at e ⊢
            exact ⟨_, off e upd_same⟩
end
end K42

namespace K42
open PySem PySem.Spec PyProof.Rows L2 Pg
theorem vI_len (ns : List Int) : (vI ns).length = ns.length := List.length_map _
theorem within_mem {ns : List Int} {m : Int} (h : withinB ns m = true) : ∀ n ∈ ns, 0 ≤ n ∧ n ≤ m := fun n hn => of_decide_eq_true (List.all_eq_true.mp h n hn)
def spDCut (K : PySem.W.Frag) (C o : Addr) : Sp := fun vs H Q E => ∃ (p L : Addr) (fp : Addr → Prop) (d : Dk) (ns : List Int), vs = [.ref p, .ref L] ∧ DiskAt K C H p fp d ∧ H L = some (.lst (vI ns)) ∧ ns.length ≤ 10000 ∧
  (withinB ns 32 = true → ∀ (H' : Hp) (fp' : Addr → Prop), ChD fp fp' H H' → DiskAt K C H' p fp' (cutD d ns) → Q .non H') ∧ (withinB ns 32 = false → outE o "torn" E H)
def downD (d : Dk) : Option Dk := match d.ahead with
  | none => some d
  | some 0 => none
  | some (n + 1) => some { d with ahead := some n }
def spDDown (K : PySem.W.Frag) (C pw : Addr) : Sp := fun vs H Q E => ∃ (p : Addr) (fp : Addr → Prop) (d : Dk), vs = [.ref p] ∧ DiskAt K C H p fp d ∧
  (∀ d', downD d = some d' → ∀ (H' : Hp), ChD fp fp H H' → DiskAt K C H' p fp d' → Q .non H') ∧ (downD d = none → ∀ (H' : Hp) (fp' : Addr → Prop), ChD fp fp' H H' → DiskAt K C H' p fp' (cutD d d.torn) → E (.ref pw) none H')
section
variable {P : Program} {w : World} {K : PySem.W.Frag} {mg : Str → Option Value} {base : Heap} {f CDisk oC oI pwC : Addr} {fd : FuncData}
theorem ok_Disk_cut_power (F : Fun K "cut_power" "Disk.cut_power" s_Disk_cut_power f fd) (z : Z mg) (T : T_Disk K mg CDisk) (ccheck_torn : CalX P w K mg base "_check_torn" 5 ["torn"] (spCheckTorn oC)) (cDisk_store : CalM P w K mg base CDisk "_store" 1 ["self", "lengths"] (spDStore K CDisk)) :
    FnOk P w K mg base (L2.CX P w) 6 f fd ["self", "torn"] (spDCut K CDisk oC) := by
  refine F.okX sc_Disk_cut_power (fun vs H Q E h => ?_) (fun cdv A outer s H vs Q E hr h => ?_)
  · obtain ⟨p, L, fp, d, ns, rfl, _⟩ := h
    rfl
  · obtain ⟨p, L, fp, d, ns, rfl, ⟨dx, S, W, T1, ss, ws, x⟩, hL, few, q1, q2⟩ := h
    refine ⟨_, (pss_cons (ps_expr (pe_calX ccheck_torn (hr.mono (by decide)) (by rfl) (fun σ => passAt (takes_of rfl rfl rfl rfl) σ) (pa_cons (pv 1) pa_nil)))
      (pss_cons (ps_set (i := 2) sc_Disk_cut_power.nd rfl (Or.inl rfl) (pe_op op_sub (pe_callB call_len_seq (by rfl) z.len PySem.boot_len (pa_cons (pe_fld (pv 0) rfl) pa_nil)) (pe_callB call_len_seq (by rfl) z.len PySem.boot_len (pa_cons (pv 1) pa_nil))))
      (pss_cons (ps_expr (pe_calM cDisk_store (hr.mono (by decide)) (pv 0) (pa_cons (pe_op op_cat (pe_callTy call_list_of (by rfl) z.list (by decide +kernel) (pa_cons (pv 1) pa_nil)) (pe_op op_rep (pe_lst (pa_cons pe_int pa_nil)) (pv 2))) pa_nil)))
      (pss_cons (ps_fldaug (pv 0) pe_int in_add)
      (pss_one (ps_fld (pv 0) pe_non rfl)))))), ?_⟩
    refine ⟨_, rfl, L, ns, rfl, hL, by omega, fun e H1 s1 => ?_, fun e dd H' s' h' => q2 e dd H' s' h'⟩
    have lim := within_mem e
    have x1 := x.keep (fun q o _ e => s1 q o e)
    have hL1 := s1 _ _ hL
    have lw : (ws.map V.ref).length = d.wt.length := by rw [List.length_map, pair_len x.wait]
    have wf := x.ok.wfew
    refine ⟨_, rfl, p, CDisk, dx, _, _, rfl, x1.hp, T.cl, T.n_waiting, rfl, W, _, rfl, .inl (.inl (.inl x1.hW)), _, rfl, L, _, rfl, .inl (.inl (.inl hL1)), _, _, rfl, rfl, ?_⟩
    have em : (((ws.map V.ref).length : Nat) : Int) - (((vI ns).length : Nat) : Int) = (d.wt.length : Nat) - (ns.length : Nat) := by rw [lw, vI_len]
    refine ⟨_, rfl, p, dx, _, rfl, x1.hp, rfl, _, rfl, L, _, rfl, .inl (.inl (.inl hL1)), fun c1 n1 => ?_⟩
    have s2 := same_new (o := .lst (vI ns)) n1
    refine ⟨by show 1 ≤ sizeLine; decide, fun z0 nz0 => ?_⟩
    have s3 := same_new (o := .lst [V.int 0]) nz0
    refine ⟨_, rfl, z0, _, [V.int 0], rfl, congrArg V.int em, upd_same, by omega, by omega, sizeLine_big (by show 1 * _ ≤ _; omega), fun z1 nz1 => ?_⟩
    have er : (List.replicate (((d.wt.length : Nat) : Int) - (ns.length : Nat)).toNat [V.int 0]).flatten = vI (List.replicate (d.wt.length - ns.length) 0) := by
      rw [show (((d.wt.length : Nat) : Int) - (ns.length : Nat)).toNat = d.wt.length - ns.length by omega]
      unfold vI
      rw [List.map_replicate]
      generalize d.wt.length - ns.length = n
      induction n with
      | zero => rfl
      | succ n ih => rw [List.replicate_succ, List.flatten_cons, ih, List.replicate_succ]; rfl
    rw [er]
    have s4 := same_new (o := .lst (vI (List.replicate (d.wt.length - ns.length) 0))) nz1
    refine ⟨c1, z1, _, _, rfl, rfl, s4 _ _ (s3 _ _ upd_same), upd_same, by rw [vI_len, vI_len, List.length_replicate]; exact sizeLine_big (by omega), fun c2 n2 => ?_⟩
    have ea : vI ns ++ vI (List.replicate (d.wt.length - ns.length) 0) = vI (ns ++ List.replicate (d.wt.length - ns.length) 0) := by
      unfold vI
      rw [List.map_append]
    rw [ea]
    have s5 := same_new (o := .lst (vI (ns ++ List.replicate (d.wt.length - ns.length) 0))) n2
    have s14 := s2.trans (s3.trans s4)
    have x5 := x1.keep (fun q o _ e => s14 q o e)
    have nf : ¬ fp c2 := fun h => by
      obtain ⟨o, e⟩ := x5.live c2 h
      rw [n2] at e; cases e
    refine ⟨p, c2, fp, d, _, rfl, ⟨dx, S, W, T1, ss, ws, x5.keep (fun q o _ e => s5 q o e)⟩, upd_same, nf, by rw [List.length_append, List.length_replicate]; omega, fun y hy => ?_, fun H6 fp' ch6 dk6 => ?_⟩
    · rcases List.mem_append.mp hy with h | h
      · exact lim y h
      · rw [(List.mem_replicate.mp h).2]
        decide
    have chA : ChD fp fp' H H6 := ChD.pre (s1.trans (s14.trans s5)) ch6
    obtain ⟨dx6, S6, W6, T6, ss6, ws6, x6⟩ := dk6
    -- counted
    refine ⟨_, rfl, p, CDisk, dx6, _, _, rfl, x6.hp, T.cl, T.n_cuts, rfl, _, _, rfl, rfl, dx6, _, x6.hp, by show 5 < 1000; decide, ?_⟩
    have x7 := x6.fld (d.cuts + 1) d.ahead (fs := putF "_cuts" (.int ((d.cuts : Nat) + 1)) [(("_stored" : Str), .ref S6), (("_waiting" : Str), .ref W6), (("_cuts" : Str), .int (d.cuts : Nat)), (("_ahead" : Str), aheadV d.ahead), (("_torn" : Str), .ref T6)]) rfl
    refine ⟨_, rfl, p, CDisk, dx6, _, rfl, x7.hp, T.cl, T.n_ahead, by show 5 < 1000; decide, ?_⟩
    have x8 := x7.fld (d.cuts + 1) none (fs := putF "_ahead" .non [(("_stored" : Str), .ref S6), (("_waiting" : Str), .ref W6), (("_cuts" : Str), .int ((d.cuts + 1 : Nat))), (("_ahead" : Str), aheadV d.ahead), (("_torn" : Str), .ref T6)]) rfl
    refine q1 e _ fp' ⟨fun q o n e => ?_, chA.new, chA.mono⟩ ⟨dx6, S6, W6, T6, ss6, ws6, x8⟩
    have qp : q ≠ p := fun h => n (by rw [h]; exact x.fps.1)
    rw [upd_ne qp, upd_ne qp]
    exact chA.keep q o n e
theorem ok_Disk_count_down (F : Fun K "_count_down" "Disk._count_down" s_Disk_count_down f fd) (z : Z mg) (T : T_Disk K mg CDisk) (pc : ErrTxt K mg "PowerCut" pwC) (cDisk_cut_power : CalMX P w K mg base CDisk "cut_power" 6 ["self", "torn"] (spDCut K CDisk oC)) :
    FnOk P w K mg base (L2.CX P w) 7 f fd ["self"] (spDDown K CDisk pwC) := by
  refine F.okX sc_Disk_count_down (fun vs H Q E h => ?_) (fun cdv A outer s H vs Q E hr h => ?_)
  · obtain ⟨p, fp, d, rfl, _⟩ := h
    rfl
  · obtain ⟨p, fp, d, rfl, ⟨dx, S, W, T1, ss, ws, x⟩, q1, q2⟩ := h
    refine ⟨_, (C8.pss_cut (ps_if (pt_cmpR op_isN (pe_fld (pv 0) rfl) pe_non (nomark _))
        (pss_one ps_retN)
        pss_nil)
      (C8.pss_cut (ps_if (pt_cmpR op_eq (pe_fld (pv 0) rfl) pe_int (nomark _))
        (pss_cons (ps_expr (pe_calMX cDisk_cut_power (hr.mono (by decide)) (fun σ => passAt (takes_of rfl rfl rfl rfl) σ) (pv 0) (pa_cons (pe_fld (pv 0) rfl) pa_nil)))
        (pss_one (ps_raiseErr rfl pc (takes_of rfl rfl rfl rfl))))
        pss_nil)
      (pss_one (ps_fldaug (pv 0) pe_int in_sub)))), ?_⟩
    cases ea : d.ahead with
    | none =>
      have hp := x.hp
      rw [ea] at hp
      have e1 : downD d = some d := by unfold downD; rw [ea]
      refine ⟨fun _ _ => False, ⟨_, rfl, p, CDisk, dx, _, _, rfl, hp, T.cl, T.n_ahead, rfl, rfl, _, rfl, iteT (q1 d e1 H (.of (Same.refl _)) ⟨dx, S, W, T1, ss, ws, x⟩)⟩, fun _ _ h => h.elim⟩
    | some n =>
      have hp := x.hp
      rw [ea] at hp
      refine ⟨fun σ' H' => σ' = [some (.ref p)] ∧ H' = H, ⟨_, rfl, p, CDisk, dx, _, _, rfl, hp, T.cl, T.n_ahead, rfl, rfl, _, rfl, iteF ⟨rfl, rfl⟩⟩, ?_⟩
      rintro σ H' ⟨rfl, rfl⟩
      cases n with
      | zero =>
        have e1 : downD d = none := by unfold downD; rw [ea]
        refine ⟨fun _ _ => False, ⟨_, rfl, p, CDisk, dx, _, _, rfl, hp, T.cl, T.n_ahead, rfl, rfl, _, rfl, iteT ?_⟩, fun _ _ h => h.elim⟩
        refine ⟨_, rfl, p, dx, _, rfl, x.hp, rfl, _, rfl, p, CDisk, dx, _, _, rfl, x.hp, T.cl, T.n_torn, rfl, p, T1, fp, d, d.torn, rfl, ⟨dx, S, W, T1, ss, ws, x⟩, x.hT, x.ok.torn.2, fun e H1 fp1 ch1 dk1 => q2 e1 H1 fp1 ch1 dk1, fun e => ?_⟩
        have := x.ok.torn.1
        unfold withinB at e
        rw [this] at e
        cases e
      | succ n =>
        have e1 : downD d = some { d with ahead := some n } := by unfold downD; rw [ea]
        refine ⟨fun σ' H'' => σ' = [some (.ref p)] ∧ H'' = H', ⟨_, rfl, p, CDisk, dx, _, _, rfl, hp, T.cl, T.n_ahead, rfl, rfl, _, rfl, ?_⟩, ?_⟩
        · rw [show decide (aheadV (some (n + 1)) = V.int 0) = false from decide_eq_false fun z => by
            have := V.int.inj z
            omega]
          exact iteF ⟨rfl, rfl⟩
        · rintro σ H2 ⟨rfl, rfl⟩
          have x7 := x.fld d.cuts (some n) (fs := putF "_ahead" (.int (((n + 1 : Nat) : Int) - 1)) [(("_stored" : Str), .ref S), (("_waiting" : Str), .ref W), (("_cuts" : Str), .int (d.cuts : Nat)), (("_ahead" : Str), aheadV (some (n + 1))), (("_torn" : Str), .ref T1)]) (by
            rw [show ((n + 1 : Nat) : Int) - 1 = ((n : Nat) : Int) by omega]
            rfl)
          refine ⟨_, rfl, p, CDisk, dx, _, _, rfl, hp, T.cl, T.n_ahead, rfl, _, _, rfl, rfl, dx, _, hp, by show 5 < 1000; decide, ?_⟩
          refine q1 _ e1 _ ⟨fun q o n e => ?_, fun q h => .inl h, fun q h => h⟩ ⟨dx, S, W, T1, ss, ws, x7⟩
          rw [upd_ne (fun h : q = p => n (by rw [h]; exact x.fps.1))]
          exact e
end
end K42

namespace K42
open PySem PySem.Spec PyProof.Rows L2 Pg
def blockB (ns : List Int) : Bool := decide (ns.length = 32) && withinB ns 255
def putD (d : Dk) (i : Nat) (ns : List Int) : Dk := { d with wt := d.wt ++ [(i, ns)] }
def newD (n : Nat) : Dk := ⟨List.replicate n (List.replicate 32 0), [], 0, none, []⟩
def spDRead (K : PySem.W.Frag) (C o : Addr) : Sp := fun vs H Q E => ∃ (p : Addr) (fp : Addr → Prop) (d : Dk) (i : Int), vs = [.ref p, .int i] ∧ DiskAt K C H p fp d ∧
  (atB d i = true → ∀ (H' : Hp) (l : Addr), Same H H' → H l = none → H' l = some (.lst (vI (readD d i.toNat))) → Q (.ref l) H') ∧ (atB d i = false → outE o "at" E H)
def spDWrite (K : PySem.W.Frag) (C o pw : Addr) : Sp := fun vs H Q E => ∃ (p L : Addr) (fp : Addr → Prop) (d : Dk) (i : Int) (ns : List Int), vs = [.ref p, .int i, .ref L] ∧ DiskAt K C H p fp d ∧ H L = some (.lst (vI ns)) ∧ ¬ fp L ∧ ns.length ≤ 10000 ∧ d.wt.length < 10000 ∧
  (atB d i = false → outE o "at" E H) ∧ (atB d i = true → blockB ns = false → outE o "block" E H) ∧
  (atB d i = true → blockB ns = true → ∀ d', downD d = some d' → ∀ (H' : Hp) (fp' : Addr → Prop), ChD fp fp' H H' → DiskAt K C H' p fp' (putD d' i.toNat ns) → Q .non H') ∧
  (atB d i = true → blockB ns = true → downD d = none → ∀ (H' : Hp) (fp' : Addr → Prop), ChD fp fp' H H' → DiskAt K C H' p fp' (cutD d d.torn) → E (.ref pw) none H')
def spDFlush (K : PySem.W.Frag) (C pw : Addr) : Sp := fun vs H Q E => ∃ (p : Addr) (fp : Addr → Prop) (d : Dk), vs = [.ref p] ∧ DiskAt K C H p fp d ∧
  (∀ d', downD d = some d' → ∀ (H' : Hp) (fp' : Addr → Prop), ChD fp fp' H H' → DiskAt K C H' p fp' (flushD d') → Q .non H') ∧ (downD d = none → ∀ (H' : Hp) (fp' : Addr → Prop), ChD fp fp' H H' → DiskAt K C H' p fp' (cutD d d.torn) → E (.ref pw) none H')
def spDInit (K : PySem.W.Frag) (C o : Addr) : Sp := fun vs H Q E => ∃ (p dx : Addr) (n : Int), vs = [.ref p, .int n] ∧ H p = some (.ins C dx []) ∧
  (8 ≤ n ∧ n ≤ 400 → ∀ (H' : Hp) (fp : Addr → Prop), (∀ b o, b ≠ p → H b = some o → H' b = some o) → (∀ q, fp q → q = p ∨ H q = none) → DiskAt K C H' p fp (newD n.toNat) → Q .non H') ∧ (¬ (8 ≤ n ∧ n ≤ 400) → outE o "blocks" E H)
theorem fnd_at (at_ : Nat) : ∀ (r : List (Nat × List Int)) (i : Nat) (e : Nat × List Int), (∀ (j : Nat), j < i → ∀ (e : Nat × List Int), r[j]? = some e → e.1 ≠ at_) → r[i]? = some e → e.1 = at_ → r.find? (fun e => decide (e.1 = at_)) = some e
  | [], i, e, _, he, _ => by simp at he
  | x :: t, 0, e, _, he, ea => by
    obtain rfl : x = e := by simpa using he
    rw [List.find?_cons, decide_eq_true ea]
  | x :: t, i + 1, e, h, he, ea => by
    have hx := h 0 (by omega) x rfl
    rw [List.find?_cons, decide_eq_false hx]
    exact fnd_at at_ t i e (fun j hj e' he' => h (j + 1) (by omega) e' (by simpa using he')) (by simpa using he) ea
theorem rev_find {l : List (Nat × List Int)} {at_ i : Nat} (h : ∀ (j : Nat), j < i → ∀ (e : Nat × List Int), l.reverse[j]? = some e → e.1 ≠ at_) {e : Nat × List Int} (he : l.reverse[i]? = some e) (ea : e.1 = at_) : l.reverse.find? (fun e => decide (e.1 = at_)) = some e := fnd_at at_ _ i e h he ea
theorem rev_none {l : List (Nat × List Int)} {at_ : Nat} (h : ∀ (j : Nat) (e : Nat × List Int), l.reverse[j]? = some e → e.1 ≠ at_) : l.reverse.find? (fun e => decide (e.1 = at_)) = none := by
  rw [List.find?_eq_none]
  intro x hx
  obtain ⟨j, hj⟩ := List.getElem?_of_mem hx
  simpa using h j x hj
section
variable {P : Program} {w : World} {K : PySem.W.Frag} {mg : Str → Option Value} {base : Heap} {f CDisk oC oI pwC : Addr} {fd : FuncData}
theorem ok_Disk_read (F : Fun K "read" "Disk.read" s_Disk_read f fd) (z : Z mg) (T : T_Disk K mg CDisk) (cDisk_check_at : CalMX P w K mg base CDisk "_check_at" 5 ["self", "at"] (spDCheckAt K CDisk oC)) : FnOk P w K mg base (L2.CX P w) 6 f fd ["self", "at"] (spDRead K CDisk oC) := by
  refine F.okX sc_Disk_read (fun vs H Q E h => ?_) (fun cdv A outer s H vs Q E hr h => ?_)
  · obtain ⟨p, fp, d, i, rfl, _⟩ := h
    rfl
  · obtain ⟨p, fp, d, i, rfl, ⟨dx, S, W, T1, ss, ws, x⟩, q1, q2⟩ := h
    refine ⟨_, (pss_cons (ps_expr (pe_calMX cDisk_check_at (hr.mono (by decide)) (fun σ => passAt (takes_of rfl rfl rfl rfl) σ) (pv 0) (pa_cons (pv 1) pa_nil)))
      (pss_cons (ps_for (passes_of rfl) rfl (pi_reversed (by rfl) z.reversed (pa_cons (pe_fld (pv 0) rfl) pa_nil)) (pg_tup rfl (pgs_cons (pg_name (i := 2) sc_Disk_read.nd rfl (Or.inl rfl)) (pgs_cons (pg_name (i := 3) sc_Disk_read.nd rfl (Or.inl rfl)) pgs_nil)))
        (pss_one (ps_if (pt_cmpR op_eq (pv 2) (pv 1) (nomark _))
          (pss_one (ps_ret (pe_callTy call_list_of (by rfl) z.list (by decide +kernel) (pa_cons (pv 3) pa_nil))))
          pss_nil)))
      (pss_one (ps_ret (pe_callTy call_list_of (by rfl) z.list (by decide +kernel) (pa_cons (pe_ix ix_list (pe_fld (pv 0) rfl) (pv 1) (fun _ _ => rfl)) pa_nil)))))), ?_⟩
    refine ⟨_, rfl, p, dx, _, rfl, x.hp, rfl, _, rfl, p, fp, d, i, rfl, ⟨dx, S, W, T1, ss, ws, x⟩, fun e => ?_, fun e dd H' s' h' => q2 e dd H' s' h'⟩
    obtain ⟨i0, il⟩ := of_decide_eq_true e
    obtain ⟨at_, rfl⟩ := Int.eq_ofNat_of_zero_le i0
    have alt : at_ < d.st.length := by omega
    have lw := pair_len x.wait
    have rlen : d.wt.reverse.length = d.wt.length := List.length_reverse
    refine ⟨_, rfl, p, CDisk, dx, _, _, rfl, x.hp, T.cl, T.n_waiting, rfl, W, _, rfl, .inl (.inl x.hW), ?_⟩
    refine for_revL (K := K) (a := W) (xs := ws.map V.ref) (fun j σ H3 => ∃ y2 y3 : Option V, σ = [some (.ref p), some (.int (at_ : Nat)), y2, y3] ∧ H3 = H ∧ ∀ k, k < j → ∀ e, d.wt.reverse[k]? = some e → e.1 ≠ at_) ⟨_, _, rfl, rfl, fun k hk => by omega⟩ (fun j σ H3 ⟨_, _, _, h3, _⟩ => by rw [h3]; exact .inl (.inl x.hW)) ?_ ?_
    · rintro j v σ H3 hj hv ⟨y2, y3, rfl, rfl, no⟩
      rw [List.length_map] at hj hv
      obtain ⟨wa, hwa, rfl⟩ : ∃ a, ws[ws.length - 1 - j]? = some a ∧ v = V.ref a := by
        rw [List.getElem?_map] at hv
        cases e : ws[ws.length - 1 - j]? with
        | none => rw [e] at hv; cases hv
        | some a => rw [e] at hv; exact ⟨a, rfl, (Option.some.inj hv).symm⟩
      obtain ⟨⟨pl, blk⟩, he, b, hb1, hb2, _⟩ := pair_left x.wait hwa
      have hb1 : H3 wa = some (.tup [.int (pl : Nat), .ref b]) := hb1
      have hb2 : H3 b = some (.lst (vI blk)) := hb2
      have her : d.wt.reverse[j]? = some (pl, blk) := by
        rw [List.getElem?_reverse (by omega), ← lw]
        exact he
      refine ⟨wa, _, rfl, .inl (.inl hb1), rfl, _, _, rfl, _, _, rfl, rfl, ?_⟩
      refine ⟨_, rfl, _, rfl, rfl, _, rfl, ite2 (fun e2 => ?_) (fun e2 => ?_)⟩
      · have ep : pl = at_ := by have := V.int.inj (of_decide_eq_true e2); omega
        refine ⟨_, rfl, b, _, rfl, .inl (.inl (.inl hb2)), fun l nl => ?_⟩
        refine q1 e _ l (same_new nl) nl ?_
        have er : readD d at_ = blk := by
          unfold readD
          rw [rev_find no her ep]
        rw [show ((at_ : Nat) : Int).toNat = at_ from rfl, er]
        exact upd_same
      · refine ⟨_, _, rfl, rfl, fun k hk e hke => ?_⟩
        by_cases h : k < j
        · exact no k h e hke
        · obtain rfl : k = j := by omega
          rw [her] at hke
          rw [← Option.some.inj hke]
          exact fun h => e2 (decide_eq_true (by rw [show pl = at_ from h]))
    · rintro σ H3 ⟨y2, y3, rfl, rfl, no⟩
      rw [List.length_map] at no
      have none_ := rev_none (l := d.wt) (at_ := at_) fun j e hj => no j (by
        have := (List.getElem?_eq_some_iff.mp hj).1
        omega) e hj
      obtain ⟨sa, hsa, hr1, _⟩ := pair_at x.rows (List.getElem?_eq_getElem alt)
      refine ⟨_, rfl, p, CDisk, dx, _, _, rfl, x.hp, T.cl, T.n_stored, rfl, _, rfl, S, _, _, .ref sa, rfl, rfl, .inl (.inl x.hS), atI_nat (by rw [List.getElem?_map, hsa]; rfl), sa, _, rfl, .inl (.inl (.inl hr1)), fun l nl => ?_⟩
      refine q1 e _ l (same_new nl) nl ?_
      have er : readD d at_ = d.st[at_] := by
        unfold readD
        rw [none_]
        show d.st.getD at_ [] = _
        rw [List.getD_eq_getElem?_getD, List.getElem?_eq_getElem alt]
        rfl
      rw [show ((at_ : Nat) : Int).toNat = at_ from rfl, er]
      exact upd_same
theorem ok_Disk_flush (F : Fun K "flush" "Disk.flush" s_Disk_flush f fd) (z : Z mg) (T : T_Disk K mg CDisk) (cDisk_store : CalM P w K mg base CDisk "_store" 1 ["self", "lengths"] (spDStore K CDisk)) (cDisk_count_down : CalMX P w K mg base CDisk "_count_down" 7 ["self"] (spDDown K CDisk pwC)) :
    FnOk P w K mg base (L2.CX P w) 8 f fd ["self"] (spDFlush K CDisk pwC) := by
  refine F.okX sc_Disk_flush (fun vs H Q E h => ?_) (fun cdv A outer s H vs Q E hr h => ?_)
  · obtain ⟨p, fp, d, rfl, _⟩ := h
    rfl
  · obtain ⟨p, fp, d, rfl, ⟨dx, S, W, T1, ss, ws, x⟩, q1, q2⟩ := h
    refine ⟨_, (pss_cons (ps_expr (pe_calMX0 cDisk_count_down (hr.mono (by decide)) (fun σ => passAt (takes_of rfl rfl rfl rfl) σ) (pv 0)))
      (pss_one (ps_expr (pe_calM cDisk_store (hr.mono (by decide)) (pv 0) (pa_cons (pe_op op_rep (pe_lst (pa_cons (pe_cI (by rfl) z.c_BLOCK) pa_nil)) (pe_callB call_len_seq (by rfl) z.len PySem.boot_len (pa_cons (pe_fld (pv 0) rfl) pa_nil))) pa_nil))))), ?_⟩
    refine ⟨_, rfl, p, dx, _, rfl, x.hp, rfl, p, fp, d, rfl, ⟨dx, S, W, T1, ss, ws, x⟩, fun d' e H1 ch1 dk1 => ?_, fun e H1 fp1 ch1 dk1 => q2 e H1 fp1 ch1 dk1⟩
    obtain ⟨dx1, S1, W1, T2, ss1, ws1, x1⟩ := dk1
    have lw : (ws1.map V.ref).length = d'.wt.length := by rw [List.length_map, pair_len x1.wait]
    have wf := x1.ok.wfew
    refine ⟨_, rfl, p, dx1, _, rfl, x1.hp, rfl, by show 1 ≤ sizeLine; decide, fun z0 nz0 => ?_⟩
    have s2 := same_new (o := .lst [V.int 32]) nz0
    refine ⟨_, rfl, p, CDisk, dx1, _, _, rfl, s2 _ _ x1.hp, T.cl, T.n_waiting, rfl, W1, _, rfl, .inl (.inl (.inl (s2 _ _ x1.hW))), z0, ((d'.wt.length : Nat) : Int), [V.int 32], rfl, congrArg (fun n : Nat => V.int (n : Int)) lw, upd_same, by omega, by omega, sizeLine_big (by show 1 * _ ≤ _; omega), fun z1 nz1 => ?_⟩
    have er : (List.replicate ((d'.wt.length : Nat) : Int).toNat [V.int 32]).flatten = vI (List.replicate d'.wt.length 32) := by
      rw [Int.toNat_natCast]
      unfold vI
      rw [List.map_replicate]
      generalize d'.wt.length = n
      induction n with
      | zero => rfl
      | succ n ih => rw [List.replicate_succ, List.flatten_cons, ih, List.replicate_succ]; rfl
    rw [er]
    have s3 := same_new (o := .lst (vI (List.replicate d'.wt.length 32))) nz1
    have x2 := x1.keep (fun q o _ e => s2 q o e)
    have nf : ¬ fp z1 := fun h => by
      obtain ⟨o, e⟩ := x2.live z1 h
      rw [nz1] at e; cases e
    refine ⟨p, z1, fp, d', _, rfl, ⟨dx1, S1, W1, T2, ss1, ws1, x2.keep (fun q o _ e => s3 q o e)⟩, upd_same, nf, by rw [List.length_replicate]; exact Nat.le_refl _, fun y hy => by rw [(List.mem_replicate.mp hy).2]; decide, fun H6 fp' ch6 dk6 => ?_⟩
    exact q1 d' e H6 fp' (ch1.trans (ChD.pre (s2.trans s3) ch6)) dk6
theorem ok_Disk_write (F : Fun K "write" "Disk.write" s_Disk_write f fd) (z : Z mg) (T : T_Disk K mg CDisk) (oor : PySem.OorX.OorTxt P K mg oC oI) (care_within : Cal P w K mg base "_are_within" 1 ["numbers", "most"] spWithin)
    (cDisk_check_at : CalMX P w K mg base CDisk "_check_at" 5 ["self", "at"] (spDCheckAt K CDisk oC)) (cDisk_count_down : CalMX P w K mg base CDisk "_count_down" 7 ["self"] (spDDown K CDisk pwC)) : FnOk P w K mg base (L2.CX P w) 8 f fd ["self", "at", "block"] (spDWrite K CDisk oC pwC) := by
  refine F.okX sc_Disk_write (fun vs H Q E h => ?_) (fun cdv A outer s H vs Q E hr h => ?_)
  · obtain ⟨p, L, fp, d, i, ns, rfl, _⟩ := h
    rfl
  · obtain ⟨p, L, fp, d, i, ns, rfl, ⟨dx, S, W, T1, ss, ws, x⟩, hL, nL, few, wfew, q1, q2, q3, q4⟩ := h
    refine ⟨_, (pss_cons (ps_expr (pe_calMX cDisk_check_at (hr.mono (by decide)) (fun σ => passAt (takes_of rfl rfl rfl rfl) σ) (pv 0) (pa_cons (pv 1) pa_nil)))
      (C8.pss_cut (ps_if (PW.pt (pw_or (pt_cmpR op_ne (pe_callB call_len_seq (by rfl) z.len PySem.boot_len (pa_cons (pv 2) pa_nil)) (pe_cI (by rfl) z.c_BLOCK) (nomark _)) (pw_or1 (pt_not (pt_val (pe_cal care_within (hr.mono (by decide)) (by rfl) (pa_cons (pv 2) (pa_cons (pe_cI (by rfl) z.c__BYTE_MOST) pa_nil))))))))
        (pss_one (ps_raiseOor rfl oor hr (takes_of rfl rfl rfl rfl) (pa_cons pe_str pa_nil)))
        pss_nil)
      (pss_cons (ps_expr (pe_calMX0 cDisk_count_down (hr.mono (by decide)) (fun σ => passAt (takes_of rfl rfl rfl rfl) σ) (pv 0)))
      (pss_one (ps_expr (pe_bm PySem.F.plainAttrs_list PySem.F.slot_list_append PySem.F.type_list_append mt_append (pe_fld (pv 0) rfl) (pa_cons (pe_tup (pa_cons (pv 1) (pa_cons (pe_callTy call_list_of (by rfl) z.list (by decide +kernel) (pa_cons (pv 2) pa_nil)) pa_nil))) pa_nil))))))), ?_⟩
    refine ⟨_, rfl, p, dx, _, rfl, x.hp, rfl, _, rfl, p, fp, d, i, rfl, ⟨dx, S, W, T1, ss, ws, x⟩, fun e => ?_, fun e dd H' s' h' => q1 e dd H' s' h'⟩
    have rs : ∀ {H1 : Hp}, Same H H1 → blockB ns = false → ∀ (dd : Addr), H1 dd = none → E (.ref oC) (some dd) (upd H1 dd (.xd [(("name" : Str), .str "block")])) := fun {H1} s1 eb dd nd => q2 e eb dd _ (s1.trans (same_new nd)) upd_same
    refine ⟨fun σ' H1 => σ' = [some (.ref p), some (.int i), some (.ref L)] ∧ Same H H1 ∧ blockB ns = true, ?_, ?_⟩
    · refine ⟨_, rfl, L, _, rfl, .inl (.inl (.inl hL)), rfl, _, rfl, ite2 (fun e1 => iteT ?_) (fun e1 => ?_)⟩
      · have eb : blockB ns = false := by
          unfold blockB
          rw [decide_eq_false (fun h => ?_), Bool.false_and]
          rw [vI_len, h] at e1
          cases e1
        exact ⟨_, rfl, by decide, fun dd nd => rs (Same.refl _) eb dd nd⟩
      · have l32 : ns.length = 32 := Classical.byContradiction fun h => e1 (by
          show (!decide (V.int ((vI ns).length : Nat) = V.int 32)) = true
          rw [vI_len, decide_eq_false fun z => h (by have := V.int.inj z; omega)]
          rfl)
        refine ⟨_, rfl, L, ns, 255, rfl, hL, by omega, fun H1 s1 => ⟨_, rfl, ?_⟩⟩
        have eb : blockB ns = withinB ns 255 := by unfold blockB; rw [decide_eq_true l32, Bool.true_and]
        cases ew : withinB ns 255 with
        | true => exact iteF ⟨rfl, s1, by rw [eb, ew]⟩
        | false => exact iteT ⟨_, rfl, by decide, fun dd nd => rs s1 (by rw [eb, ew]) dd nd⟩
    · rintro σ H1 ⟨rfl, s1, eb⟩
      have x1 := x.keep (fun q o _ e => s1 q o e)
      refine ⟨_, rfl, p, dx, _, rfl, x1.hp, rfl, p, fp, d, rfl, ⟨dx, S, W, T1, ss, ws, x1⟩, fun d' ed H2 ch2 dk2 => ?_, fun ed H2 fp2 ch2 dk2 => q4 e eb ed H2 fp2 (ChD.pre s1 ch2) dk2⟩
      obtain ⟨dx2, S2, W2, T2, ss2, ws2, x2⟩ := dk2
      have hL2 := ch2.keep L _ nL (s1 _ _ hL)
      obtain ⟨i0, il⟩ := of_decide_eq_true e
      obtain ⟨at_, rfl⟩ := Int.eq_ofNat_of_zero_le i0
      have stE : d'.st = d.st ∧ d'.wt = d.wt := by
        unfold downD at ed
        cases ea : d.ahead with
        | none => rw [ea] at ed; rw [← Option.some.inj ed]; exact ⟨rfl, rfl⟩
        | some n =>
          rw [ea] at ed
          cases n with
          | zero => cases ed
          | succ n => rw [← Option.some.inj ed]; exact ⟨rfl, rfl⟩
      have ebb := Bool.and_eq_true_iff.mp eb
      have l32 := of_decide_eq_true ebb.1
      -- it waits
      refine ⟨_, rfl, p, CDisk, dx2, _, _, rfl, x2.hp, T.cl, T.n_waiting, rfl, .inl ⟨rfl, _, .inl (.inl x2.hW)⟩, _, rfl, _, rfl, L, _, rfl, .inl (.inl (.inl hL2)), fun b nb => ?_⟩
      have sb := same_new (o := .lst (vI ns)) nb
      refine ⟨by show 2 ≤ sizeLine; decide, fun t nt => ?_⟩
      have st := same_new (o := .tup [V.int (at_ : Nat), .ref b]) nt
      have s34 := sb.trans st
      have x4 := x2.keep (fun q o _ e => s34 q o e)
      have nfb : ¬ fp b := fun h => by
        obtain ⟨o, e⟩ := x2.live b h
        rw [nb] at e; cases e
      have nft : ¬ fp t := fun h => by
        obtain ⟨o, e⟩ := (x2.keep (fun q o _ e => sb q o e)).live t h
        rw [nt] at e; cases e
      have hb4 := st _ _ (@upd_same H2 b (.lst (vI ns)))
      have ht4 := @upd_same (upd H2 b (.lst (vI ns))) t (.tup [V.int (at_ : Nat), .ref b])
      generalize upd (upd H2 b (.lst (vI ns))) t (.tup [.int (at_ : Nat), .ref b]) = H4 at s34 x4 hb4 ht4 ⊢
      refine ⟨W2, _, _, rfl, rfl, x4.hW, by rw [List.length_map, pair_len x2.wait, stE.2]; exact small5 (by omega), ?_⟩
      have off : ∀ {q : Addr} {o o' : HO}, q ≠ W2 → H4 q = some o → upd H4 W2 o' q = some o := fun {q o o'} n e => by rw [upd_ne n]; exact e
      have fW := x4.fps.2.2.1
      have bS : b ≠ S2 := fun h => nfb (by rw [h]; exact x4.fps.2.1)
      have bW : b ≠ W2 := fun h => nfb (by rw [h]; exact fW)
      have tW : t ≠ W2 := fun h => nft (by rw [h]; exact fW)
      have chA := ChD.pre s1 ch2
      refine q3 e eb d' ed _ (fun q => (fp q ∨ q = b) ∨ q = t) ⟨fun q o n e => ?_, fun q h => ?_, fun q h => .inl (.inl h)⟩ ⟨dx2, S2, W2, T2, ss2, ws2 ++ [t], ⟨off (ne_of x4.hp x4.hW (by intro z; cases z)) x4.hp, off x4.ne.1 x4.hS, ?_, off (Ne.symm x4.ne.2.2) x4.hT,
        Paired.mapP x4.rows fun a r ⟨h1, h2, h3, h4⟩ => ⟨off h4 h1, .inl (.inl h2), h3, h4⟩, ?_, x4.ne, ⟨.inl (.inl x4.fps.1), .inl (.inl x4.fps.2.1), .inl (.inl fW), .inl (.inl x4.fps.2.2.2)⟩, fun q h => ?_, ⟨x4.ok.rows, x4.ok.few, fun en hen => ?_, ?_, x4.ok.torn⟩⟩⟩
      · rw [upd_ne (fun h : q = W2 => n (by rw [h]; exact fW))]
        exact s34 _ _ (chA.keep q o n e)
      · rcases h with (h | h) | h
        · exact .inl h
        · rw [h]
          by_cases f : fp b
          · exact .inl f
          · right
            cases w : H b with
            | none => rfl
            | some o => rw [chA.keep b o f w] at nb; cases nb
        · rw [h]
          right
          cases w : H t with
          | none => rfl
          | some o => rw [sb _ _ (chA.keep t o nft w)] at nt; cases nt
      · rw [upd_same, List.map_append]
        rfl
      · exact pair_app (Paired.mapP x4.wait fun a en ⟨b', h1, h2, h3, h4, h5, h6⟩ => ⟨b', off (ne_of h1 x4.hW (by intro z; cases z)) h1, off h6 h2, .inl (.inl h3), .inl (.inl h4), h5, h6⟩) (.cons ⟨b, off tW ht4, off bW hb4, .inr rfl, .inl (.inr rfl), bS, bW⟩ .nil)
      · by_cases ew : q = W2
        · exact ⟨_, by rw [ew, upd_same]⟩
        · rcases h with (h | h) | h
          · obtain ⟨o, ho⟩ := x4.live q h
            exact ⟨o, off ew ho⟩
          · rw [h] at ew ⊢
            exact ⟨_, off ew hb4⟩
          · rw [h] at ew ⊢
            exact ⟨_, off ew ht4⟩
      · have hen : en ∈ d'.wt ++ [(at_, ns)] := hen
        rcases List.mem_append.mp hen with h | h
        · exact x4.ok.wait en h
        · rw [List.mem_singleton.mp h]
          exact ⟨by show at_ < d'.st.length; rw [stE.1]; omega, l32⟩
      · show (d'.wt ++ [(at_, ns)]).length ≤ 10000
        rw [List.length_append, stE.2]
        show d.wt.length + 1 ≤ 10000
        omega
end
end K42

namespace K42
open PySem PySem.Spec PyProof.Rows L2 Pg
/-- rows that were made since H -/
def NewRows (H H' : Hp) (D : Addr) (rows : List (List Int)) : Prop := ∃ ss : List Addr, H' D = some (.lst (ss.map V.ref)) ∧ Paired (fun (a : Addr) (r : List Int) => H' a = some (.lst (vI r)) ∧ H a = none ∧ a ≠ D) ss rows ∧ Same H H'
theorem lc_rows0 {n : Nat} {g : TG} {vs : List Nat} {σ : L2.St} {H1 : Hp} {D : Addr} {Qd : Hp → Prop} (nD : H1 D = none) (few : n ≤ 400) (hg : ∀ (i : Nat) (H : Hp) (R : L2.St → Hp → Prop), (∀ σ2, wipe σ2 vs = wipe σ vs → R σ2 H) → g (V.int (0 + i)) (wipe σ vs) H R)
    (q : ∀ H', NewRows H1 H' D (List.replicate n (List.replicate 32 0)) → Qd H') :
    ∃ W : Nat → Nat → Hp → Prop, (∃ m, W 0 m (upd H1 D (.lst []))) ∧ ∀ i m H, W i m H → ((Itr 0 n).stop i H ∧ Qd H) ∨
      ((Itr 0 n).go i H ∧ ∃ Nx : Hp → Prop, (∀ H', Nx H' → ∃ m', m' < m ∧ W (i + 1) m' H') ∧ ∀ x H', (Itr 0 n).yld i H x H' →
        g x (wipe σ vs) H' fun σ2 H2 => wipe σ2 vs = wipe σ vs ∧ tYes σ2 H2 fun b H3 => if b = true then (tOp rRep (tLst (tCons (tC (V.int 0)) tNil)) (tC (V.int 32))) σ2 H3 fun y H4 => ∃ acc, H4 D = some (.lst acc) ∧ acc.length < sizeLine ∧ Nx (upd H4 D (.lst (acc ++ [y]))) else Nx H3) := by
  refine lc_range (lo := 0) (n := n) (g := g) (tt := tYes) (te := tOp rRep (tLst (tCons (tC (V.int 0)) tNil)) (tC (V.int 32))) (vs := vs) (σ := σ) (H1 := H1) (D := D) (Qd := Qd) (fun j H' => NewRows H1 H' D (List.replicate j (List.replicate 32 0))) ⟨[], upd_same, .nil, same_new nD⟩ ?_ q
  rintro j H2 hj ⟨ss, hD, rows, s⟩
  refine hg j H2 _ fun σ2 hw => ⟨hw, yes (iteT ?_)⟩
  refine ⟨by show 1 ≤ sizeLine; decide, fun z0 nz0 => ?_⟩
  refine ⟨z0, 32, [V.int 0], rfl, rfl, upd_same, by decide, by decide, by decide, fun Z nZ => ?_⟩
  have eZ : (List.replicate (32 : Int).toNat [V.int 0]).flatten = vI (List.replicate 32 0) := by decide
  rw [eZ]
  have s2 := (same_new (o := .lst [V.int 0]) nz0).trans (same_new (o := .lst (vI (List.replicate 32 0))) nZ)
  have hD3 := s2 _ _ hD
  have hZ := @upd_same (upd H2 z0 (.lst [V.int 0])) Z (.lst (vI (List.replicate 32 0)))
  have ZD : Z ≠ D := fun e => by rw [e, same_new nz0 _ _ hD] at nZ; cases nZ
  have nZ1 : H1 Z = none := by
    cases w : H1 Z with
    | none => rfl
    | some o =>
      have := same_new (o := .lst [V.int 0]) nz0 _ _ (s _ _ w)
      rw [nZ] at this; cases this
  generalize upd (upd H2 z0 (.lst [V.int 0])) Z (.lst (vI (List.replicate 32 0))) = H3 at s2 hD3 hZ ⊢
  refine ⟨_, hD3, by rw [List.length_map, pair_len rows, List.length_replicate]; exact small5 (by omega), ss ++ [Z], ?_, ?_, ?_⟩
  · rw [upd_same, List.map_append]
    rfl
  · rw [List.replicate_succ']
    exact pair_app (Paired.mapP rows fun a r ⟨h1, h2, h3⟩ => ⟨by rw [upd_ne h3]; exact s2 _ _ h1, h2, h3⟩) (.cons ⟨by rw [upd_ne ZD]; exact hZ, nZ1, ZD⟩ .nil)
  · intro q o e
    by_cases w : q = D
    · rw [w, nD] at e; cases e
    · rw [upd_ne w]; exact s2 _ _ (s _ _ e)
section
variable {P : Program} {w : World} {K : PySem.W.Frag} {mg : Str → Option Value} {base : Heap} {f CDisk oC oI pwC : Addr} {fd : FuncData}
theorem ok_Disk_init (F : Fun K "__init__" "Disk.__init__" s_Disk_init f fd) (z : Z mg) (T : T_Disk K mg CDisk) (oor : PySem.OorX.OorTxt P K mg oC oI) : FnOk P w K mg base (L2.CX P w) 5 f fd ["self", "blocks"] (spDInit K CDisk oC) := by
  refine F.okX sc_Disk_init (fun vs H Q E h => ?_) (fun cdv A outer s H vs Q E hr h => ?_)
  · obtain ⟨p, dx, n, rfl, _⟩ := h
    rfl
  · obtain ⟨p, dx, n, rfl, hp, q1, q2⟩ := h
    refine ⟨_, (pss_cons (ps_if (pt_not (pt_chain op_le op_le (pe_cI (by rfl) z.c__BLOCKS_LEAST) (pv 1) (pe_cI (by rfl) z.c_BLOCKS_MOST)))
        (pss_one (ps_raiseOor rfl oor hr (takes_of rfl rfl rfl rfl) (pa_cons pe_str pa_nil)))
        pss_nil)
      (pss_cons (ps_fld (pv 0) (pe_lc (own := [("_", 2)]) (g := (gName 2)) (tt := tYes) rfl sc_Disk_init.nd (pi_range1 (by rfl) z.range (pa_cons (pv 1) pa_nil)) (blkOk_by (own := [("_", 2)]) (N := ["self", "blocks", "_"]) (sc := defScope s_Disk_init) (by decide +kernel)) (fun _ _ _ _ _ => pg_name (i := 2) sc_Disk_init.nd rfl (Or.inl rfl)) (fun _ _ _ _ _ => pts_nil) (fun _ _ _ _ _ => (pe_op op_rep (pe_lst (pa_cons pe_int pa_nil)) (pe_cI (by rfl) z.c_BLOCK)))) rfl)
      (pss_cons (ps_fld (pv 0) (pe_lst pa_nil) rfl)
      (pss_cons (ps_fld (pv 0) pe_int rfl)
      (pss_cons (ps_fld (pv 0) pe_non rfl)
      (pss_one (ps_fld (pv 0) (pe_lst pa_nil) rfl))))))), ?_⟩
    refine ⟨_, rfl, _, _, rfl, rfl, _, rfl, ite2 (fun e => ?_) (fun e => ?_)⟩
    · have e1 := of_decide_eq_true e
      refine ⟨_, _, rfl, rfl, _, rfl, ite2 (fun e2 => ?_) (fun e2 => ?_)⟩
      · refine ⟨_, rfl, by decide, fun dd nd => q2 (fun h => ?_) dd _ (same_new nd) upd_same⟩
        have e2 : (!decide (n ≤ 400)) = true := e2
        rw [decide_eq_true h.2] at e2
        cases e2
      · have n400 : n ≤ 400 := by
          have e2 : ¬ (!decide (n ≤ 400)) = true := e2
          simpa using e2
        obtain ⟨m, rfl⟩ := Int.eq_ofNat_of_zero_le (a := n) (by omega)
        refine ⟨_, rfl, (m : Nat), rfl, by omega, ?_, fun D nD => ?_⟩
        · have : (m : Int) ≤ 400 := n400
          exact Int.lt_of_le_of_lt this (by decide)
        refine lc_rows0 (n := m) nD (by omega) (fun i H R hR => hR _ rfl) fun H1 ⟨ss, hD, rows, s1⟩ => ?_
        have pD : p ≠ D := ne_of_none hp nD
        refine ⟨_, rfl, p, CDisk, dx, [], rfl, s1 _ _ hp, T.cl, T.n_stored, (by show 0 < 1000; decide), ?_⟩
        refine ⟨Nat.zero_le _, fun W nW => ?_⟩
        refine ⟨_, rfl, p, CDisk, dx, _, rfl, same_new nW _ _ upd_same, T.cl, T.n_waiting, (by show 1 < 1000; decide), ?_⟩
        refine ⟨_, rfl, p, CDisk, dx, _, rfl, upd_same, T.cl, T.n_cuts, (by show 2 < 1000; decide), ?_⟩
        refine ⟨_, rfl, p, CDisk, dx, _, rfl, upd_same, T.cl, T.n_ahead, (by show 3 < 1000; decide), ?_⟩
        refine ⟨Nat.zero_le _, fun T1 nT => ?_⟩
        refine ⟨_, rfl, p, CDisk, dx, _, rfl, same_new nT _ _ upd_same, T.cl, T.n_torn, (by show 4 < 1000; decide), ?_⟩
        have WP : W ≠ p := fun e => by rw [e, upd_same] at nW; cases nW
        have TP : T1 ≠ p := fun e => by rw [e, upd_same] at nT; cases nT
        have TW : T1 ≠ W := fun e => by
          rw [e, upd_ne WP, upd_ne WP, upd_ne WP, upd_same] at nT
          cases nT
        have DW : D ≠ W := fun e => by
          rw [← e, upd_ne pD.symm, hD] at nW
          cases nW
        have DT : D ≠ T1 := fun e => by
          rw [← e, upd_ne pD.symm, upd_ne pD.symm, upd_ne pD.symm, upd_ne DW, upd_ne pD.symm, hD] at nT
          cases nT
        have nW1 : H1 W = none := by rw [upd_ne WP] at nW; exact nW
        have nT1 : H1 T1 = none := by rw [upd_ne TP, upd_ne TP, upd_ne TP, upd_ne TW, upd_ne TP] at nT; exact nT
        have back : ∀ {q : Addr}, H1 q = none → H q = none := fun {q} e => by
          cases w : H q with
          | none => rfl
          | some o => rw [s1 _ _ w] at e; cases e
        have fin : ∀ HN : Hp, HN p = some (.ins CDisk dx [(("_stored" : Str), .ref D), (("_waiting" : Str), .ref W), (("_cuts" : Str), .int 0), (("_ahead" : Str), .non), (("_torn" : Str), .ref T1)]) → (∀ q o, q ≠ p → q ≠ W → q ≠ T1 → H1 q = some o → HN q = some o) → HN W = some (.lst []) → HN T1 = some (.lst []) → Q .non HN := by
          intro HN h1 off h3 h4
          have off1 : ∀ {q o}, q ≠ p → H1 q = some o → HN q = some o := fun {q o} n e => off q o n (ne_of_none e nW1) (ne_of_none e nT1) e
          refine q1 ⟨e1, n400⟩ HN (fun q => (q = p ∨ q = D ∨ q = W ∨ q = T1) ∨ (H q = none ∧ ∃ o, H1 q = some o)) (fun b o n e => off1 n (s1 _ _ e)) ?_ ⟨dx, D, W, T1, ss, [], h1, off1 pD.symm hD, h3, h4, Paired.mapP rows fun a r ⟨x1, x2, x3⟩ => ⟨off1 (fun e => by rw [e, hp] at x2; cases x2) x1, .inr ⟨x2, _, x1⟩, x3, ne_of_none x1 nW1⟩, .nil, ⟨DW, DT, TW.symm⟩, ⟨.inl (.inl rfl), .inl (.inr (.inl rfl)), .inl (.inr (.inr (.inl rfl))), .inl (.inr (.inr (.inr rfl)))⟩, ?_, ⟨?_, ?_, ?_, Nat.zero_le _, rfl, Nat.zero_le _⟩⟩
          · rintro q ((h | h | h | h) | ⟨h, _⟩)
            · exact .inl h
            · rw [h]; exact .inr nD
            · rw [h]; exact .inr (back nW1)
            · rw [h]; exact .inr (back nT1)
            · exact .inr h
          · rintro q ((h | h | h | h) | ⟨h, o, ho⟩)
            · exact ⟨_, by rw [h]; exact h1⟩
            · exact ⟨_, by rw [h]; exact off1 pD.symm hD⟩
            · exact ⟨_, by rw [h]; exact h3⟩
            · exact ⟨_, by rw [h]; exact h4⟩
            · exact ⟨o, off1 (fun e => by rw [e, s1 _ _ hp] at ho; rw [e, hp] at h; cases h) ho⟩
          · intro r hr
            rw [(List.mem_replicate.mp hr).2]
            rfl
          · show (List.replicate _ _).length ≤ 400
            rw [List.length_replicate]
            have := n400
            omega
          · intro e he
            cases he
        refine fin _ upd_same (fun q o n nW nT e => ?_) ?_ ?_
        · rw [upd_ne n, upd_ne nT, upd_ne n, upd_ne n, upd_ne n, upd_ne nW, upd_ne n]
          exact e
        · rw [upd_ne WP, upd_ne TW.symm, upd_ne WP, upd_ne WP, upd_ne WP, upd_same]
        · rw [upd_ne TP, upd_same]
    · exact ⟨_, rfl, iteT ⟨_, rfl, by decide, fun dd nd => q2 (fun h => e (decide_eq_true h.1)) dd _ (same_new nd) upd_same⟩⟩
end
end K42

namespace K42
open PySem PySem.Spec PyProof.Rows L2 Pg
/-! ### a cut that is scheduled -/
def schedD (d : Dk) (many : Nat) (ns : List Int) : Dk := { d with ahead := some many, torn := ns }
def manyB (m : Int) : Bool := decide (0 ≤ m ∧ m ≤ 100000)
def spDSched (K : PySem.W.Frag) (C o : Addr) : Sp := fun vs H Q E => ∃ (p L : Addr) (fp : Addr → Prop) (d : Dk) (many : Int) (ns : List Int), vs = [.ref p, .int many, .ref L] ∧ DiskAt K C H p fp d ∧ H L = some (.lst (vI ns)) ∧ ns.length ≤ 10000 ∧
  (manyB many = true → withinB ns 32 = true → ∀ (H' : Hp) (fp' : Addr → Prop), ChD fp fp' H H' → DiskAt K C H' p fp' (schedD d many.toNat ns) → Q .non H') ∧ (manyB many = false → outE o "many" E H) ∧ (manyB many = true → withinB ns 32 = false → outE o "torn" E H)
/-- other numbers of torn bytes -/
theorem Parts.newT {K : PySem.W.Frag} {C : Addr} {H : Hp} {fp : Addr → Prop} {d : Dk} {p dx S W T l : Addr} {ss ws : List Addr} {fs : List (Str × V)} {ns : List Int} (x : Parts K C H fp d p dx S W T ss ws) (hl : H l = some (.lst (vI ns))) (nl : ¬ fp l) (ok : withinB ns 32 = true ∧ ns.length ≤ 10000)
    (e : fs = [(("_stored" : Str), .ref S), (("_waiting" : Str), .ref W), (("_cuts" : Str), .int (d.cuts : Nat)), (("_ahead" : Str), aheadV d.ahead), (("_torn" : Str), .ref l)]) : Parts K C (upd H p (.ins C dx fs)) (fun q => fp q ∨ q = l) { d with torn := ns } p dx S W l ss ws := by
  have off : ∀ {q : Addr} {o : HO}, H q = some o → (∀ a b c, o ≠ .ins a b c) → upd H p (.ins C dx fs) q = some o := fun {q o} h n => by
    rw [upd_ne (fun e : q = p => by rw [e, x.hp] at h; exact n _ _ _ (Option.some.inj h).symm)]
    exact h
  have Sl : S ≠ l := fun h => nl (h ▸ x.fps.2.1)
  have Wl : W ≠ l := fun h => nl (h ▸ x.fps.2.2.1)
  refine ⟨by rw [upd_same, e], off x.hS (by intro a b c z; cases z), off x.hW (by intro a b c z; cases z), off hl (by intro a b c z; cases z), Paired.mapP x.rows fun a r ⟨h1, h2, h3⟩ => ⟨off h1 (by intro a b c z; cases z), .inl h2, h3⟩,
    Paired.mapP x.wait fun a r ⟨b, h1, h2, h3, h4, h5⟩ => ⟨b, off h1 (by intro a b c z; cases z), off h2 (by intro a b c z; cases z), .inl h3, .inl h4, h5⟩, ⟨x.ne.1, Sl, Wl⟩, ⟨.inl x.fps.1, .inl x.fps.2.1, .inl x.fps.2.2.1, .inr rfl⟩, fun q h => ?_, ⟨x.ok.rows, x.ok.few, x.ok.wait, x.ok.wfew, ok⟩⟩
  by_cases e2 : q = p
  · exact ⟨_, by rw [e2, upd_same]⟩
  · rcases h with h | h
    · obtain ⟨o, ho⟩ := x.live q h
      exact ⟨o, by rw [upd_ne e2]; exact ho⟩
    · rw [h] at e2 ⊢
      exact ⟨_, by rw [upd_ne e2]; exact hl⟩
section
variable {P : Program} {w : World} {K : PySem.W.Frag} {mg : Str → Option Value} {base : Heap} {f CDisk oC oI pwC : Addr} {fd : FuncData}
theorem ok_Disk_schedule_cut (F : Fun K "schedule_cut" "Disk.schedule_cut" s_Disk_schedule_cut f fd) (z : Z mg) (T : T_Disk K mg CDisk) (oor : PySem.OorX.OorTxt P K mg oC oI) (ccheck_torn : CalX P w K mg base "_check_torn" 5 ["torn"] (spCheckTorn oC)) :
    FnOk P w K mg base (L2.CX P w) 6 f fd ["self", "many", "torn"] (spDSched K CDisk oC) := by
  refine F.okX sc_Disk_schedule_cut (fun vs H Q E h => ?_) (fun cdv A outer s H vs Q E hr h => ?_)
  · obtain ⟨p, L, fp, d, m, ns, rfl, _⟩ := h
    rfl
  · obtain ⟨p, L, fp, d, m, ns, rfl, ⟨dx, S, W, T1, ss, ws, x⟩, hL, few, q1, q2, q3⟩ := h
    refine ⟨_, (pss_cons (ps_if (pt_not (pt_chain op_le op_le pe_int (pv 1) (pe_cI (by rfl) z.c__SCHEDULE_MOST)))
        (pss_one (ps_raiseOor rfl oor hr (takes_of rfl rfl rfl rfl) (pa_cons pe_str pa_nil)))
        pss_nil)
      (pss_cons (ps_expr (pe_calX ccheck_torn (hr.mono (by decide)) (by rfl) (fun σ => passAt (takes_of rfl rfl rfl rfl) σ) (pa_cons (pv 2) pa_nil)))
      (pss_cons (ps_fld (pv 0) (pv 1) rfl)
      (pss_one (ps_fld (pv 0) (pe_callTy call_list_of (by rfl) z.list (by decide +kernel) (pa_cons (pv 2) pa_nil)) rfl))))), ?_⟩
    refine ⟨_, rfl, _, _, rfl, rfl, _, rfl, ite2 (fun e => ?_) (fun e => ?_)⟩
    · have e1 := of_decide_eq_true e
      refine ⟨_, _, rfl, rfl, _, rfl, ite2 (fun e2 => ?_) (fun e2 => ?_)⟩
      · refine ⟨_, rfl, by decide, fun dd nd => q2 (decide_eq_false fun h => ?_) dd _ (same_new nd) upd_same⟩
        have e2 : (!decide (m ≤ 100000)) = true := e2
        rw [decide_eq_true h.2] at e2
        cases e2
      · have m1 : m ≤ 100000 := by
          have e2 : ¬ (!decide (m ≤ 100000)) = true := e2
          simpa using e2
        have hm : manyB m = true := decide_eq_true ⟨e1, m1⟩
        refine ⟨_, rfl, L, ns, rfl, hL, by omega, fun hw H1 s1 => ?_, fun hw dd H' s' h' => q3 hm hw dd H' s' h'⟩
        obtain ⟨n, rfl⟩ := Int.eq_ofNat_of_zero_le e1
        have x1 := x.keep fun q o _ e => s1 q o e
        refine ⟨_, rfl, _, rfl, p, CDisk, dx, _, rfl, x1.hp, T.cl, T.n_ahead, (by show 5 < 1000; decide), ?_⟩
        have x2 := x1.fld (fs := putF "_ahead" (V.int (n : Nat)) [(("_stored" : Str), .ref S), (("_waiting" : Str), .ref W), (("_cuts" : Str), .int (d.cuts : Nat)), (("_ahead" : Str), aheadV d.ahead), (("_torn" : Str), .ref T1)]) d.cuts (some n) rfl
        have pL : L ≠ p := ne_of hL x.hp (by intro z; cases z)
        refine ⟨_, rfl, L, _, rfl, .inl (.inl (.inl (by rw [upd_ne pL]; exact s1 _ _ hL))), fun l nl => ?_⟩
        have x3 := x2.keep fun q o _ e => same_new (o := .lst (vI ns)) nl q o e
        have fl : ¬ fp l := fun h => by
          obtain ⟨o, e⟩ := x2.live l h
          rw [nl] at e; cases e
        refine ⟨_, rfl, p, CDisk, dx, _, rfl, x3.hp, T.cl, T.n_torn, (by show 5 < 1000; decide), ?_⟩
        refine q1 hm hw _ (fun q => fp q ∨ q = l) ⟨fun q o n e => ?_, fun q h => ?_, fun q h => .inl h⟩ ⟨dx, S, W, l, ss, ws, x3.newT upd_same fl ⟨hw, few⟩ rfl⟩
        · have np : q ≠ p := fun h => n (h ▸ x.fps.1)
          rw [upd_ne np]
          refine same_new nl _ _ ?_
          rw [upd_ne np]
          exact s1 _ _ e
        · rcases h with h | h
          · exact .inl h
          · right
            have lp : l ≠ p := fun h => fl (h ▸ x.fps.1)
            rw [h]
            cases w : H l with
            | none => rfl
            | some o => rw [upd_ne lp, s1 _ _ w] at nl; cases nl
    · exact ⟨_, rfl, iteT ⟨_, rfl, by decide, fun dd nd => q2 (decide_eq_false fun h => e (decide_eq_true h.1)) dd _ (same_new nd) upd_same⟩⟩
end
end K42

namespace K42
open PySem PySem.Spec PyProof.Rows L2 Pg
/-- a new row of bounded numbers, after some draws -/
def spTornD : Sp := fun vs H Q _ => ∃ (b : Addr) (many : Int), vs = [.ref b, .int many] ∧ 0 ≤ many ∧ many ≤ 100 ∧ Box H b ∧ ∀ (ns : List Int) (H2 : Hp) (L : Addr), Drew b H H2 → H L = none → H2 L = some (.lst (vI ns)) → (∀ n ∈ ns, 0 ≤ n ∧ n ≤ 32) → (ns.length : Int) ≤ many → Q (.ref L) H2
theorem drew_none {b L : Addr} {H H1 : Hp} (d : Drew b H H1) (n : H1 L = none) : H L = none := by
  cases w : H L with
  | none => rfl
  | some o =>
    rw [d.keep L o (d.box.ne n) w] at n
    cases n
/-- a comprehension whose items are drawn -/
theorem lc_draws {n : Nat} {g : TG} {te : TE} {vs : List Nat} {σ : L2.St} {H0 H1 : Hp} {D b : Addr} {Qd : Hp → Prop} (k : Nat) (px : Int → Prop) (dr : Drew b H0 H1) (nD : H1 D = none) (few : n ≤ 400)
    (hg : ∀ (i : Nat) (H : Hp) (R : L2.St → Hp → Prop), (∀ σ2, wipe σ2 vs = wipe σ vs → σ2 = σ.set k (some (.int (0 + i))) → R σ2 H) → g (V.int (0 + i)) (wipe σ vs) H R)
    (ht : ∀ (x : Option V) (H : Hp) (R : V → Hp → Prop), Box H b → (∀ x H', px x → Drew b H H' → R (.int x) H') → te (σ.set k x) H R)
    (q : ∀ (H' : Hp) (ns : List Int), Drew b H0 H' → H' D = some (.lst (vI ns)) → ns.length = n → (∀ x ∈ ns, px x) → Qd H') :
    ∃ W : Nat → Nat → Hp → Prop, (∃ m, W 0 m (upd H1 D (.lst []))) ∧ ∀ i m H, W i m H → ((Itr 0 n).stop i H ∧ Qd H) ∨
      ((Itr 0 n).go i H ∧ ∃ Nx : Hp → Prop, (∀ H', Nx H' → ∃ m', m' < m ∧ W (i + 1) m' H') ∧ ∀ x H', (Itr 0 n).yld i H x H' →
        g x (wipe σ vs) H' fun σ2 H2 => wipe σ2 vs = wipe σ vs ∧ tYes σ2 H2 fun b H3 => if b = true then te σ2 H3 fun y H4 => ∃ acc, H4 D = some (.lst acc) ∧ acc.length < sizeLine ∧ Nx (upd H4 D (.lst (acc ++ [y]))) else Nx H3) := by
  obtain ⟨dg, B1⟩ := dr.box
  obtain ⟨Db, Dd⟩ := B1.ne nD
  have nD0 := drew_none dr nD
  refine lc_range (lo := 0) (n := n) (g := g) (tt := tYes) (te := te) (vs := vs) (σ := σ) (H1 := H1) (D := D) (Qd := Qd) (fun j H' => ∃ ns : List Int, Drew b H0 H' ∧ BoxAt H' b dg ∧ H' D = some (.lst (vI ns)) ∧ ns.length = j ∧ ∀ x ∈ ns, px x) ⟨[], dr.same (same_new nD), B1.same (same_new nD), upd_same, rfl, by intro x hx; cases hx⟩ ?_ (fun H' ⟨ns, a, _, b, c, d⟩ => q H' ns a b c d)
  rintro j H2 hj ⟨ns, d2, B2, hD, ln, al⟩
  refine hg j H2 _ fun σ2 hw hk => ⟨hw, yes (iteT ?_)⟩
  rw [hk]
  refine ht _ H2 _ d2.box fun x H3 hx d3 => ?_
  have B4 := (d3.dig dg B2).upd (o := .lst (vI ns ++ [V.int x])) Db Dd
  refine ⟨_, d3.keep D _ Db hD, by rw [vI_len]; exact small5 (by omega), ns ++ [x], ⟨⟨dg, B4⟩, fun d Bd => ?_, fun p o n e => ?_⟩, B4, ?_, ?_, ?_⟩
  · exact (d3.dig d (d2.dig d Bd)).upd Db (Bd.ne nD0).2
  · rw [upd_ne (ne_of_none e nD0)]
    exact d3.keep p o n (d2.keep p o n e)
  · rw [upd_same]
    unfold vI
    rw [List.map_append]
    rfl
  · rw [List.length_append, ln]
    rfl
  · intro y hy
    rcases List.mem_append.mp hy with h | h
    · exact al y h
    · rw [List.mem_singleton.mp h]; exact hx
/-- a refusal is told -/
def tellE (o : Addr) (Q : V → Hp → Prop) : XK := fun x dd H => x = .ref o ∧ ∃ d z, dd = some d ∧ H d = some (.xd [(("name" : Str), .str z)]) ∧ ∀ (t : Addr) (H' : Hp), Same H H' → H' t = some (.tup [.str "refused", .str z]) → Q (.ref t) H'
/-- so is a cut -/
def tellP (o pw : Addr) (Q : V → Hp → Prop) : XK := fun x dd H => tellE o Q x dd H ∨ (x = .ref pw ∧ dd = none ∧ ∀ (t : Addr) (H' : Hp), Same H H' → H' t = some (.tup [.str "refused", .str "cut"]) → Q (.ref t) H')
def spSched (K : PySem.W.Frag) (C o : Addr) : Sp := fun vs H Q _ => spDSched K C o vs H Q (tellE o Q)
def spDoRaw (K : PySem.W.Frag) (C o pw : Addr) : Sp := fun vs H Q E => ∃ (p L : Addr) (i : Int), vs = [.ref p, .int i, .ref L] ∧ ((i = 0 - 1 ∧ spDFlush K C pw [.ref p] H Q E) ∨ (i ≠ 0 - 1 ∧ spDWrite K C o pw [.ref p, .int i, .ref L] H Q E))
def spDo (K : PySem.W.Frag) (C o pw : Addr) : Sp := fun vs H Q _ => spDoRaw K C o pw vs H Q (tellP o pw Q)
section
variable {K : PySem.W.Frag} {C o pw : Addr} {vs : List V} {H : Hp} {Q Q2 : V → Hp → Prop} {E E2 : XK}
theorem spDWrite_mono (hq : ∀ v H, Q v H → Q2 v H) (he : ∀ c d H, E c d H → E2 c d H) : spDWrite K C o pw vs H Q E → spDWrite K C o pw vs H Q2 E2 := fun ⟨p, L, fp, d, i, ns, e, a, b, c, f, g, q1, q2, q3, q4⟩ =>
  ⟨p, L, fp, d, i, ns, e, a, b, c, f, g, fun h dd H' s x => he _ _ _ (q1 h dd H' s x), fun h h2 dd H' s x => he _ _ _ (q2 h h2 dd H' s x), fun h h2 d' h3 H' fp' c x => hq _ _ (q3 h h2 d' h3 H' fp' c x), fun h h2 h3 H' fp' c x => he _ _ _ (q4 h h2 h3 H' fp' c x)⟩
theorem spDFlush_mono (hq : ∀ v H, Q v H → Q2 v H) (he : ∀ c d H, E c d H → E2 c d H) : spDFlush K C pw vs H Q E → spDFlush K C pw vs H Q2 E2 := fun ⟨p, fp, d, e, a, q1, q2⟩ =>
  ⟨p, fp, d, e, a, fun d' h H' fp' c x => hq _ _ (q1 d' h H' fp' c x), fun h H' fp' c x => he _ _ _ (q2 h H' fp' c x)⟩
theorem spDSched_mono (hq : ∀ v H, Q v H → Q2 v H) (he : ∀ c d H, E c d H → E2 c d H) : spDSched K C o vs H Q E → spDSched K C o vs H Q2 E2 := fun ⟨p, L, fp, d, m, ns, e, a, b, c, q1, q2, q3⟩ =>
  ⟨p, L, fp, d, m, ns, e, a, b, c, fun h h2 H' fp' c x => hq _ _ (q1 h h2 H' fp' c x), fun h dd H' s x => he _ _ _ (q2 h dd H' s x), fun h h2 dd H' s x => he _ _ _ (q3 h h2 dd H' s x)⟩
theorem spDoRaw_mono (hq : ∀ v H, Q v H → Q2 v H) (he : ∀ c d H, E c d H → E2 c d H) : spDoRaw K C o pw vs H Q E → spDoRaw K C o pw vs H Q2 E2 := fun ⟨p, L, i, e, h⟩ =>
  ⟨p, L, i, e, h.imp (fun x => ⟨x.1, spDFlush_mono hq he x.2⟩) fun x => ⟨x.1, spDWrite_mono hq he x.2⟩⟩
end
section
variable {P : Program} {w : World} {K : PySem.W.Frag} {mg : Str → Option Value} {base : Heap} {f CDisk oC oI pwC pgC : Addr} {fd : FuncData}
theorem ok_law_torn (F : Fun K "_law_torn" "_law_torn" s_law_torn f fd) (z : Z mg) (claw_draw : Cal P w K mg base "_law_draw" 1 ["box", "many"] spDraw) : FnOk P w K mg base CX0 2 f fd ["box", "many"] spTornD := by
  refine F.ok sc_law_torn (fun vs H Q E h => ?_) (fun cdv A outer s H vs Q E hr h => ?_)
  · obtain ⟨b, m, rfl, _⟩ := h
    rfl
  · obtain ⟨b, m, rfl, m0, m1, hb, q⟩ := h
    refine ⟨_, (pss_cons (ps_set (i := 2) sc_law_torn.nd rfl (Or.inl rfl) (pe_cal claw_draw (hr.mono (by decide)) (by rfl) (pa_cons (pv 0) (pa_cons pe_int pa_nil))))
      (pss_cons (ps_if (pt_cmpR op_eq (pv 2) pe_int (nomark _))
        (pss_one (ps_ret (pe_lst pa_nil)))
        pss_nil)
      (pss_cons (ps_if (pt_cmpR op_eq (pv 2) pe_int (nomark _))
        (pss_one (ps_ret (pe_op op_rep (pe_lst (pa_cons pe_int pa_nil)) (pv 1))))
        pss_nil)
      (pss_cons (ps_if (pt_cmpR op_eq (pv 2) pe_int (nomark _))
        (pss_one (ps_ret (pe_lc (own := [("k", 3)]) (g := (gName 3)) (tt := tYes) rfl sc_law_torn.nd (pi_range1 (by rfl) z.range (pa_cons (pv 1) pa_nil)) (blkOk_by (own := [("k", 3)]) (N := ["box", "many", "kind", "k"]) (sc := defScope s_law_torn) (by decide +kernel)) (fun _ _ _ _ _ => pg_name (i := 3) sc_law_torn.nd rfl (Or.inl rfl)) (fun _ _ _ _ _ => pts_nil) (fun _ _ _ _ _ => (pe_op op_mul pe_int (pe_cal claw_draw (hr.mono (by decide)) (by rfl) (pa_cons (pv 0) (pa_cons pe_int pa_nil))))))))
        pss_nil)
      (pss_one (ps_ret (pe_lc (own := [("k", 3)]) (g := (gName 3)) (tt := tYes) rfl sc_law_torn.nd (pi_range1 (by rfl) z.range (pa_cons (pv 1) pa_nil)) (blkOk_by (own := [("k", 3)]) (N := ["box", "many", "kind", "k"]) (sc := defScope s_law_torn) (by decide +kernel)) (fun _ _ _ _ _ => pg_name (i := 3) sc_law_torn.nd rfl (Or.inl rfl)) (fun _ _ _ _ _ => pts_nil) (fun _ _ _ _ _ => (pe_cal claw_draw (hr.mono (by decide)) (by rfl) (pa_cons (pv 0) (pa_cons pe_int pa_nil))))))))))), ?_⟩
    obtain ⟨m, rfl⟩ := Int.eq_ofNat_of_zero_le m0
    refine ⟨.ref b, rfl, b, 4, rfl, by decide, hb, fun r H1 l u d1 => ?_⟩
    refine ⟨_, rfl, rfl, _, rfl, ite2 (fun _ => ?_) (fun _ => ⟨_, rfl, rfl, _, rfl, ite2 (fun _ => ?_) (fun _ => ⟨_, rfl, rfl, _, rfl, ite2 (fun _ => ?_) (fun _ => ?_)⟩)⟩)⟩
    · exact ⟨Nat.zero_le _, fun L nL => q [] _ L (d1.same (same_new nL)) (drew_none d1 nL) upd_same (by intro n hn; cases hn) (by show ((0 : Nat) : Int) ≤ _; omega)⟩
    · refine ⟨by show 1 ≤ sizeLine; decide, fun z0 nz0 => ?_⟩
      refine ⟨_, rfl, z0, (m : Nat), [V.int 32], rfl, rfl, upd_same, by omega, by omega, sizeLine_big (by show 1 * _ ≤ _; omega), fun Z nZ => ?_⟩
      have s2 := (same_new (o := .lst [V.int 32]) nz0).trans (same_new (o := .lst (List.replicate ((m : Nat) : Int).toNat [V.int 32]).flatten) nZ)
      have nZ1 : H1 Z = none := by
        cases w : H1 Z with
        | none => rfl
        | some o => rw [same_new nz0 _ _ w] at nZ; cases nZ
      have er : (List.replicate ((m : Nat) : Int).toNat [V.int 32]).flatten = vI (List.replicate m 32) := by
        rw [Int.toNat_natCast]
        unfold vI
        rw [List.map_replicate]
        clear q m1 m0 s2 nZ
        induction m with
        | zero => rfl
        | succ n ih => rw [List.replicate_succ, List.flatten_cons, ih, List.replicate_succ]; rfl
      refine q (List.replicate m 32) _ Z (d1.same s2) (drew_none d1 nZ1) (by rw [← er]; exact upd_same) (fun n hn => ?_) ?_
      · rw [(List.mem_replicate.mp hn).2]
        decide
      · rw [List.length_replicate]
        exact Int.le_refl _
    · refine ⟨_, rfl, (m : Nat), rfl, by omega, Int.lt_of_le_of_lt m1 (by decide), fun D nD => ?_⟩
      refine lc_draws (n := m) (b := b) 3 (fun x => 0 ≤ x ∧ x ≤ 32) d1 nD (by omega) (fun i H R hR => hR _ rfl rfl) ?_ (fun H' ns a b c d => q ns H' D a (drew_none d1 nD) b d (by rw [c]; exact Int.le_refl _))
      rintro x H2 R hb2 hR
      refine ⟨.ref b, rfl, b, 2, rfl, by decide, hb2, fun r2 H3 l2 u2 d3 => ?_⟩
      refine ⟨_, _, rfl, rfl, .inl ⟨by decide, by decide⟩, hR _ H3 ?_ d3⟩
      omega
    · refine ⟨_, rfl, (m : Nat), rfl, by omega, Int.lt_of_le_of_lt m1 (by decide), fun D nD => ?_⟩
      refine lc_draws (n := m) (b := b) 3 (fun x => 0 ≤ x ∧ x ≤ 32) d1 nD (by omega) (fun i H R hR => hR _ rfl rfl) ?_ (fun H' ns a b c d => q ns H' D a (drew_none d1 nD) b d (by rw [c]; exact Int.le_refl _))
      rintro x H2 R hb2 hR
      refine ⟨.ref b, rfl, b, 33, rfl, by decide, hb2, fun r2 H3 l2 u2 d3 => hR _ H3 (by omega) d3⟩
theorem ok_law_schedule (F : Fun K "_law_schedule" "_law_schedule" s_law_schedule f fd) (z : Z mg) (T : T_Disk K mg CDisk) (oor : PySem.OorX.OorTxt P K mg oC oI) (cDisk_schedule_cut : CalMX P w K mg base CDisk "schedule_cut" 6 ["self", "many", "torn"] (spDSched K CDisk oC)) :
    FnOk P w K mg base CX0 7 f fd ["disk", "count", "torn"] (spSched K CDisk oC) := by
  refine F.ok sc_law_schedule (fun vs H Q E h => ?_) (fun cdv A outer s H vs Q E hr h => ?_)
  · obtain ⟨p, L, fp, d, many, ns, rfl, _⟩ := h
    rfl
  · have h' := h
    obtain ⟨p, L, fp, d, many, ns, rfl, ⟨dx, S, W, T1, ss, ws, x⟩, _⟩ := h'
    refine ⟨_, (pss_one (ps_try_as (i := 3) rfl rfl sc_law_schedule.nd rfl rfl ⟨rfl, by decide, Or.inl oor.gC⟩ takes0
        (fun W pn xe tk _ => (pss_one (ps_ret (pe_calMX cDisk_schedule_cut (hr.mono (by decide)) (fun σ => passAt tk σ) (pv 0) (pa_cons (pv 1) (pa_cons (pv 2) pa_nil))))))
        (fun a oe cls d pn hz hf => (pss_one (ps_ret (pe_tup (pa_cons pe_str (pa_cons (pe_nameOor oor hz hf (pv 3)) pa_nil)))))))), ?_⟩
    refine ⟨_, rfl, p, dx, _, rfl, x.hp, rfl, _, rfl, _, rfl, ?_⟩
    refine spDSched_mono ?_ ?_ h
    · intro v H1 h1
      exact h1
    · rintro c d H1 ⟨rfl, d0, zz, rfl, h1, h2⟩
      exact ⟨true, oor.te, fun _ a na => ⟨_, rfl, rfl, rfl, d0, _, rfl, h1, by show 2 ≤ sizeLine; decide, fun t nt => h2 t _ (same_new nt) upd_same⟩, fun h => by cases h⟩
theorem ok_law_do_raw (F : Fun K "_law_do_raw" "_law_do_raw" s_law_do_raw f fd) (z : Z mg) (T : T_Disk K mg CDisk) (cDisk_flush : CalMX P w K mg base CDisk "flush" 8 ["self"] (spDFlush K CDisk pwC)) (cDisk_write : CalMX P w K mg base CDisk "write" 8 ["self", "at", "block"] (spDWrite K CDisk oC pwC)) :
    FnOk P w K mg base (L2.CX P w) 9 f fd ["disk", "at", "block"] (spDoRaw K CDisk oC pwC) := by
  refine F.okX sc_law_do_raw (fun vs H Q E h => ?_) (fun cdv A outer s H vs Q E hr h => ?_)
  · obtain ⟨p, L, i, rfl, _⟩ := h
    rfl
  · obtain ⟨p, L, i, rfl, h⟩ := h
    refine ⟨_, (pss_cons (ps_if (pt_cmpR op_eq (pv 1) (pe_op op_sub pe_int pe_int) (nomark _))
        (pss_one (ps_ret (pe_calMX0 cDisk_flush (hr.mono (by decide)) (fun σ => passAt (takes_of rfl rfl rfl rfl) σ) (pv 0))))
        pss_nil)
      (pss_one (ps_ret (pe_calMX cDisk_write (hr.mono (by decide)) (fun σ => passAt (takes_of rfl rfl rfl rfl) σ) (pv 0) (pa_cons (pv 1) (pa_cons (pv 2) pa_nil)))))), ?_⟩
    refine ⟨_, rfl, _, _, rfl, rfl, rfl, _, rfl, ite2 (fun e => ?_) (fun e => ?_)⟩
    · rcases h with ⟨_, h⟩ | ⟨n, _⟩
      · have h' := h
        obtain ⟨p', fp, d, ev, ⟨dx, S, W, T1, ss, ws, x⟩, _⟩ := h'
        obtain rfl : p = p' := by injection ev with a _; injection a
        exact ⟨_, rfl, p, dx, _, rfl, x.hp, rfl, h⟩
      · exact absurd (V.int.inj (of_decide_eq_true e)) n
    · rcases h with ⟨n, _⟩ | ⟨_, h⟩
      · exact absurd (decide_eq_true (congrArg V.int n)) e
      · have h' := h
        obtain ⟨p', L', fp, d, i', ns, ev, ⟨dx, S, W, T1, ss, ws, x⟩, _⟩ := h'
        obtain rfl : p = p' := by injection ev with a _; injection a
        exact ⟨_, rfl, p, dx, _, rfl, x.hp, rfl, _, rfl, _, rfl, h⟩
theorem ok_law_do (F : Fun K "_law_do" "_law_do" s_law_do f fd) (z : Z mg) (oor : PySem.OorX.OorTxt P K mg oC oI) (pc : ErrTxt K mg "PowerCut" pwC) (pg : ErrTxt K mg "PageError" pgC) (pcX : ExcC K pwC) (y1 : PySem.W.exmOne K (.ref pwC) (.ref pwC) = some true) (y2 : PySem.W.exmOne K (.ref oC) (.ref pwC) = some false)
    (y3 : PySem.W.kitOne K (.ref pwC) (.ref pgC) = some true) (y4 : PySem.W.kitOne K (.ref pwC) (.ref oC) = some false) (claw_do_raw : CalX P w K mg base "_law_do_raw" 9 ["disk", "at", "block"] (spDoRaw K CDisk oC pwC)) :
    FnOk P w K mg base CX0 10 f fd ["disk", "at", "block"] (spDo K CDisk oC pwC) := by
  refine F.ok sc_law_do (fun vs H Q E h => ?_) (fun cdv A outer s H vs Q E hr h => ?_)
  · obtain ⟨p, L, i, rfl, _⟩ := h
    rfl
  · have h' := h
    obtain ⟨p, L, i, rfl, _⟩ := h'
    refine ⟨_, (pss_cons (ps_tryL rfl rfl sc_law_do.nd takes0
        (fun W pn xe tk _ => (pss_one (ps_set (i := 3) sc_law_do.nd rfl (Or.inl rfl) (pe_calX claw_do_raw (hr.mono (by decide)) (by rfl) (fun σ => passAt tk σ) (pa_cons (pv 0) (pa_cons (pv 1) (pa_cons (pv 2) pa_nil)))))))
        (.as_ (i := 4) ⟨rfl, by decide, Or.inl pc.g⟩ rfl rfl (fun a oe cls d pn hz hf => (pss_cons (ps_if (PW.pt (pw_and (pt_val (pe_callB (call_isEW pcX hz hf) (by rfl) z.isinstance (by decide +kernel) (pa_cons (pv 4) (pa_cons (pe_glob (v := .ref _) (by rfl) pg.g rfl) pa_nil)))) (pw_and1 (pt_not (pt_val (pe_callB (call_isEW pcX hz hf) (by rfl) z.isinstance (by decide +kernel) (pa_cons (pv 4) (pa_cons (pe_glob (v := .ref _) (by rfl) oor.gC rfl) pa_nil))))))))
          (pss_one (ps_ret (pe_tup (pa_cons pe_str (pa_cons pe_str pa_nil)))))
          pss_nil)
        (pss_one (ps_ret (pe_tup (pa_cons pe_str (pa_cons pe_str pa_nil))))))) (.as_ (i := 4) ⟨rfl, by decide, Or.inl oor.gC⟩ rfl rfl (fun a oe cls d pn hz hf => (pss_one (ps_ret (pe_tup (pa_cons pe_str (pa_cons (pe_nameOor oor hz hf (pv 4)) pa_nil)))))) .nil)))
      (pss_one (ps_ret (pv 3)))), ?_⟩
    refine ⟨_, rfl, _, rfl, _, rfl, ?_⟩
    refine spDoRaw_mono ?_ ?_ h
    · intro v H1 h1
      exact ⟨_, rfl, h1⟩
    · rintro c d H1 (⟨rfl, d0, zz, rfl, h1, h2⟩ | ⟨rfl, rfl, h2⟩)
      · exact ⟨false, y2, (fun h => by cases h), fun _ => ⟨true, oor.te, fun _ a na => ⟨_, rfl, rfl, rfl, d0, _, rfl, h1, by show 2 ≤ sizeLine; decide, fun t nt => h2 t _ (same_new nt) upd_same⟩, fun h => by cases h⟩⟩
      · refine ⟨true, y1, fun _ a na => ?_, fun h => by cases h⟩
        refine ⟨_, rfl, rfl, rfl, _, _, true, rfl, fun u r => r, y3, true, rfl, iteT ⟨_, rfl, rfl, rfl, _, _, false, rfl, fun u r => r, y4, false, rfl, iteT ?_⟩⟩
        exact ⟨by show 2 ≤ sizeLine; decide, fun t nt => h2 t _ (same_new nt) upd_same⟩
end
end K42

namespace K42
open PySem PySem.Spec PyProof.Rows L2 Pg
/-! ### the law's own rows -/
structure OwnR (H : Hp) (ow : Addr → Prop) (B W : Addr) (st : List (List Int)) (wt : List (Nat × List Int)) (bs es : List Addr) : Prop where
  hB : H B = some (.lst (bs.map V.ref))
  hW : H W = some (.lst (es.map V.ref))
  rows : Paired (fun (a : Addr) (r : List Int) => H a = some (.lst (vI r)) ∧ ow a ∧ a ≠ B ∧ a ≠ W) bs st
  wait : Paired (fun (a : Addr) (e : Nat × List Int) => ∃ b, H a = some (.lst [.int (e.1 : Nat), .ref b]) ∧ H b = some (.lst (vI e.2)) ∧ ow a ∧ ow b ∧ a ≠ B ∧ a ≠ W ∧ b ≠ B ∧ b ≠ W) es wt
  ne : B ≠ W
  has : ow B ∧ ow W
  live : ∀ q, ow q → ∃ o, H q = some o
theorem OwnR.keep {H H' : Hp} {ow : Addr → Prop} {B W : Addr} {st : List (List Int)} {wt : List (Nat × List Int)} {bs es : List Addr} (x : OwnR H ow B W st wt bs es) (s : ∀ q o, ow q → H q = some o → H' q = some o) : OwnR H' ow B W st wt bs es :=
  ⟨s _ _ x.has.1 x.hB, s _ _ x.has.2 x.hW, Paired.mapP x.rows fun _ _ ⟨a, b, c⟩ => ⟨s _ _ b a, b, c⟩, Paired.mapP x.wait fun _ _ ⟨b, h1, h2, h3, h4, h5⟩ => ⟨b, s _ _ h3 h1, s _ _ h4 h2, h3, h4, h5⟩, x.ne, x.has, fun q h => let ⟨o, e⟩ := x.live q h; ⟨o, s _ _ h e⟩⟩
theorem ref_ne {K : PySem.W.Frag} {z : Str} {t : Addr} {σ : L2.St} {H : Hp} {Q : V → Hp → Prop} (ht : H t = some (.tup [.str "refused", .str z])) (e : z = "at" ∨ z = "block" ∨ z = "torn" ∨ z = "many" ∨ z = "cut") (q : ∀ H', Same H H' → Q (.bl false) H') :
    tTup (tCons (tC (V.str "refused")) (tCons (tC (V.str z)) tNil)) σ H fun y H2 => rNeD K (.ref t) y H2 Q := by
  refine ⟨by show 2 ≤ sizeLine; decide, fun t2 nt2 => ?_⟩
  have s2 := same_new (o := .tup [V.str "refused", .str z]) nt2
  refine ⟨.tuple [.str "refused", .str z], .tuple [.str "refused", .str z], .tup (.inl (.inl (s2 _ _ ht))) (.cons (.str _) (.cons (.str _) .nil)), .tup (.inl (.inl upd_same)) (.cons (.str _) (.cons (.str _) .nil)), ?_, ?_, ?_⟩
  · rcases e with rfl | rfl | rfl | rfl | rfl <;> decide +kernel
  · rcases e with rfl | rfl | rfl | rfl | rfl <;> decide +kernel
  · have : (!PyData.eqv (.tuple [.str "refused", .str z]) (.tuple [.str "refused", .str z])) = false := by rcases e with rfl | rfl | rfl | rfl | rfl <;> decide +kernel
    rw [this]
    exact q _ s2
theorem back_none {H H' : Hp} {q : Addr} (s : Same H H') (n : H' q = none) : H q = none := by
  cases w : H q with
  | none => rfl
  | some o => rw [s _ _ w] at n; cases n
theorem mk0 {c : Int} (n : Nat) {σ : L2.St} {H : Hp} {Q : V → Hp → Prop} (few : n ≤ 100) (q : ∀ (Z : Addr) (H' : Hp), Same H H' → H Z = none → H' Z = some (.lst (vI (List.replicate n c))) → Q (.ref Z) H') :
    tOp rRep (tLst (tCons (tC (V.int c)) tNil)) (tC (V.int (n : Nat))) σ H Q := by
  refine ⟨by show 1 ≤ sizeLine; decide, fun z0 nz0 => ?_⟩
  refine ⟨z0, (n : Nat), [V.int c], rfl, rfl, upd_same, by omega, by omega, sizeLine_big (by show 1 * _ ≤ _; omega), fun Z nZ => ?_⟩
  have er : (List.replicate ((n : Nat) : Int).toNat [V.int c]).flatten = vI (List.replicate n c) := by
    rw [Int.toNat_natCast]
    unfold vI
    rw [List.map_replicate]
    clear q nZ
    induction n with
    | zero => rfl
    | succ n ih => rw [List.replicate_succ, List.flatten_cons, ih (by omega), List.replicate_succ]; rfl
  refine q Z _ ((same_new nz0).trans (same_new nZ)) ?_ (by rw [← er]; exact upd_same)
  cases w : H Z with
  | none => rfl
  | some o => rw [same_new nz0 _ _ w] at nZ; cases nZ
theorem ixN_nat {n k : Nat} (h : k < n) : ixN n (k : Int) = some k := by
  unfold ixN
  rw [if_pos (by omega), if_pos (by omega)]
  congr 1
/-! ### rows of a disk, told twice -/
/-- each write as it stands -/
def putAll (st : List (List Int)) (l : List (Nat × List Int)) : List (List Int) := l.foldl (fun st e => st.set e.1 e.2) st
theorem putAll_snoc (st : List (List Int)) (l : List (Nat × List Int)) (e : Nat × List Int) : putAll st (l ++ [e]) = (putAll st l).set e.1 e.2 := by
  unfold putAll
  rw [List.foldl_append]
  rfl
theorem putAll_len (l : List (Nat × List Int)) : ∀ st : List (List Int), (putAll st l).length = st.length := by
  induction l with
  | nil => intro st; rfl
  | cons x r ih =>
    intro st
    show (putAll (st.set x.1 x.2) r).length = st.length
    rw [ih, List.length_set]
theorem store_all : ∀ (l : List (Nat × List Int)) (st : List (List Int)) (n : Nat), l.length ≤ n → (∀ r ∈ st, r.length = 32) → (∀ e ∈ l, e.1 < st.length ∧ e.2.length = 32) → storeD st (l.zip (List.replicate n 32)) = putAll st l
  | [], st, n, _, _, _ => by rw [List.zip_nil_left]; rfl
  | e :: l, st, 0, h, _, _ => by simp at h
  | e :: l, st, n + 1, h, hr, hw => by
    obtain ⟨h1, h2⟩ := hw e List.mem_cons_self
    have er : e.2.take (32 : Int).toNat ++ (st.getD e.1 []).drop (32 : Int).toNat = e.2 := by
      have l1 : (st.getD e.1 []).length = 32 := by
        rw [List.getD_eq_getElem?_getD, List.getElem?_eq_getElem h1]
        exact hr _ (List.getElem_mem h1)
      show e.2.take 32 ++ (st.getD e.1 []).drop 32 = e.2
      rw [List.take_of_length_le (by omega), List.drop_of_length_le (by omega), List.append_nil]
    show storeD (st.set e.1 (e.2.take (32 : Int).toNat ++ (st.getD e.1 []).drop (32 : Int).toNat)) (l.zip (List.replicate n 32)) = putAll (st.set e.1 e.2) l
    rw [er]
    refine store_all l _ n (by simpa using h) (fun r h => ?_) (fun x hx => ?_)
    · rcases List.mem_or_eq_of_mem_set h with h | h
      · exact hr r h
      · rw [h]; exact h2
    · rw [List.length_set]
      exact hw x (List.mem_cons_of_mem _ hx)
theorem store_zero : ∀ (l : List (Nat × List Int)) (st : List (List Int)) (n : Nat), storeD st (l.zip (List.replicate n 0)) = st
  | [], st, n => by rw [List.zip_nil_left]; rfl
  | e :: l, st, 0 => by rw [List.replicate_zero, List.zip_nil_right]; rfl
  | e :: l, st, n + 1 => by
    show storeD (st.set e.1 (e.2.take (0 : Int).toNat ++ (st.getD e.1 []).drop (0 : Int).toNat)) (l.zip (List.replicate n 0)) = st
    have : st.set e.1 (e.2.take (0 : Int).toNat ++ (st.getD e.1 []).drop (0 : Int).toNat) = st := by
      show st.set e.1 (e.2.take 0 ++ (st.getD e.1 []).drop 0) = st
      rw [List.take_zero, List.drop_zero, List.nil_append]
      by_cases h : e.1 < st.length
      · rw [List.getD_eq_getElem?_getD, List.getElem?_eq_getElem h]
        exact List.set_getElem_self h
      · exact List.set_eq_of_length_le (by omega)
    rw [this]
    exact store_zero l st n
theorem store_more : ∀ (l : List (Nat × List Int)) (st : List (List Int)) (ns : List Int), storeD st (l.zip (ns ++ List.replicate (l.length - ns.length) 0)) = storeD st (l.zip ns)
  | [], st, ns => by rw [List.zip_nil_left, List.zip_nil_left]
  | e :: l, st, [] => by
    rw [List.nil_append, List.zip_nil_right]
    exact store_zero (e :: l) st _
  | e :: l, st, n :: ns => by
    show storeD (st.set e.1 _) (l.zip (ns ++ List.replicate ((l.length + 1) - (ns.length + 1)) 0)) = storeD (st.set e.1 _) (l.zip ns)
    rw [Nat.add_sub_add_right]
    exact store_more l _ ns
theorem store_rows : ∀ (l : List ((Nat × List Int) × Int)) (st : List (List Int)), (∀ r ∈ st, r.length = 32) → (∀ x ∈ l, x.1.1 < st.length ∧ x.1.2.length = 32) → ∀ r ∈ storeD st l, r.length = 32
  | [], st, h, _ => h
  | x :: l, st, h, hl => by
    obtain ⟨h1, h2⟩ := hl x List.mem_cons_self
    refine store_rows l (st.set x.1.1 (x.1.2.take x.2.toNat ++ (st.getD x.1.1 []).drop x.2.toNat)) (fun r hr => ?_) fun y hy => by rw [List.length_set]; exact hl y (List.mem_cons_of_mem _ hy)
    rcases List.mem_or_eq_of_mem_set hr with g | g
    · exact h r g
    · have l1 : (st.getD x.1.1 []).length = 32 := by
        rw [List.getD_eq_getElem?_getD, List.getElem?_eq_getElem h1]
        exact h _ (List.getElem_mem h1)
      rw [g, List.length_append, List.length_take, List.length_drop, l1, h2]
      omega
/-! ### the law's walk -/
structure LW (K : PySem.W.Frag) (C b p : Addr) (n : Nat) (H : Hp) (B W : Addr) (d : Dk) (st : List (List Int)) (wt : List (Nat × List Int)) (dg : Addr) (fp ow : Addr → Prop) (bs es : List Addr) : Prop where
  box : BoxAt H b dg
  fb : ¬ fp b
  fd : ¬ fp dg
  disk : DiskAt K C H p fp d
  len : d.st.length = n
  own : OwnR H ow B W st wt bs es
  off : ∀ q, ow q → ¬ fp q ∧ q ≠ b ∧ q ≠ dg
section
variable {K : PySem.W.Frag} {C b p B W dg : Addr} {n : Nat} {H H' : Hp} {d d' : Dk} {st : List (List Int)} {wt : List (Nat × List Int)} {fp fp' ow : Addr → Prop} {bs es : List Addr}
theorem LW.same (x : LW K C b p n H B W d st wt dg fp ow bs es) (s : Same H H') : LW K C b p n H' B W d st wt dg fp ow bs es :=
  ⟨x.box.same s, x.fb, x.fd, x.disk.same s, x.len, x.own.keep fun q o _ e => s q o e, x.off⟩
theorem LW.drew (x : LW K C b p n H B W d st wt dg fp ow bs es) (s : Drew b H H') : LW K C b p n H' B W d st wt dg fp ow bs es :=
  ⟨s.dig dg x.box, x.fb, x.fd, x.disk.keep fun q o h e => s.keep q o (fun z => x.fb (z ▸ h)) e, x.len, x.own.keep fun q o h e => s.keep q o (x.off q h).2.1 e, x.off⟩
theorem LW.chd (x : LW K C b p n H B W d st wt dg fp ow bs es) (c : ChD fp fp' H H') (dk : DiskAt K C H' p fp' d') (len : d'.st.length = n) : LW K C b p n H' B W d' st wt dg fp' ow bs es := by
  have no : ∀ {q : Addr} {o : HO}, ¬ fp q → H q = some o → ¬ fp' q := fun {q o} h e f => by
    rcases c.new q f with g | g
    · exact h g
    · rw [e] at g; cases g
  obtain ⟨ds, m, h1, h2, ne, few⟩ := x.box
  refine ⟨⟨ds, m, c.keep _ _ x.fb h1, c.keep _ _ x.fd h2, ne, few⟩, no x.fb h1, no x.fd h2, dk, len, x.own.keep fun q o h e => c.keep q o (x.off q h).1 e, fun q h => ?_⟩
  obtain ⟨o, e⟩ := x.own.live q h
  exact ⟨no (x.off q h).1 e, (x.off q h).2⟩
/-- elsewhere -/
theorem LW.elsewhere {q : Addr} {o : HO} (x : LW K C b p n H B W d st wt dg fp ow bs es) (h : ¬ fp q ∧ q ≠ b ∧ q ≠ dg ∧ ¬ ow q) : LW K C b p n (upd H q o) B W d st wt dg fp ow bs es :=
  ⟨x.box.upd h.2.1 h.2.2.1, x.fb, x.fd, x.disk.keep fun r o' f e => by rw [upd_ne (fun z : r = q => h.1 (z ▸ f))]; exact e, x.len, x.own.keep fun r o' f e => by rw [upd_ne (fun z : r = q => h.2.2.2 (z ▸ f))]; exact e, x.off⟩
/-- none of what stands -/
theorem LW.fresh (x : LW K C b p n H B W d st wt dg fp ow bs es) {q : Addr} (h : H q = none) : ¬ fp q ∧ q ≠ b ∧ q ≠ dg ∧ ¬ ow q := by
  obtain ⟨h1, h2⟩ := x.box.ne h
  refine ⟨x.disk.live h, h1, h2, fun f => ?_⟩
  obtain ⟨o, e⟩ := x.own.live q f
  rw [h] at e; cases e
/-- another row -/
theorem LW.setB {c : Addr} {i : Nat} {r : List Int} (x : LW K C b p n H B W d st wt dg fp ow bs es) (hc : H c = some (.lst (vI r))) (fc : ¬ fp c ∧ c ≠ b ∧ c ≠ dg) (cB : c ≠ B) (cW : c ≠ W) :
    LW K C b p n (upd H B (.lst ((bs.map V.ref).set i (.ref c)))) B W d (st.set i r) wt dg fp (fun q => ow q ∨ q = c) (bs.set i c) es := by
  have offB := x.off B x.own.has.1
  have off : ∀ {q : Addr} {o : HO}, q ≠ B → H q = some o → upd H B (.lst ((bs.map V.ref).set i (.ref c))) q = some o := fun {q o} n e => by rw [upd_ne n]; exact e
  refine ⟨x.box.upd offB.2.1 offB.2.2, x.fb, x.fd, x.disk.keep fun q o f e => off (fun h => offB.1 (h ▸ f)) e, x.len, ⟨?_, off x.own.ne.symm x.own.hW, ?_, ?_, x.own.ne, ⟨.inl x.own.has.1, .inl x.own.has.2⟩, fun q h => ?_⟩, fun q h => ?_⟩
  · rw [upd_same, ← List.map_set]
  · exact pair_set i (Paired.mapP x.own.rows fun a r1 ⟨h1, h2, h3, h4⟩ => ⟨off h3 h1, .inl h2, h3, h4⟩) ⟨off cB hc, .inr rfl, cB, cW⟩
  · exact Paired.mapP x.own.wait fun a e ⟨b', h1, h2, h3, h4, h5, h6, h7, h8⟩ => ⟨b', off h5 h1, off h7 h2, .inl h3, .inl h4, h5, h6, h7, h8⟩
  · by_cases e : q = B
    · exact ⟨_, by rw [e, upd_same]⟩
    · rcases h with h | h
      · obtain ⟨o, ho⟩ := x.own.live q h
        exact ⟨o, off e ho⟩
      · rw [h] at e ⊢
        exact ⟨_, off e hc⟩
  · rcases h with h | h
    · exact x.off q h
    · rw [h]; exact fc
/-- a new row of waiting writes -/
theorem LW.newW {W2 : Addr} (x : LW K C b p n H B W d st wt dg fp ow bs es) (nW : H W2 = none) : LW K C b p n (upd H W2 (.lst [])) B W2 d st [] dg fp (fun q => ow q ∨ q = W2) bs [] := by
  have s := same_new (o := .lst []) nW
  have x2 := x.same s
  have fW := x.fresh nW
  have neW : ∀ {q : Addr} {o : HO}, H q = some o → q ≠ W2 := fun h => ne_of_none h nW
  refine ⟨x2.box, x2.fb, x2.fd, x2.disk, x2.len, ⟨x2.own.hB, upd_same, ?_, .nil, neW x.own.hB, ⟨.inl x.own.has.1, .inr rfl⟩, fun q h => ?_⟩, fun q h => ?_⟩
  · exact Paired.mapP x.own.rows fun a r ⟨h1, h2, h3, h4⟩ => ⟨s _ _ h1, .inl h2, h3, neW h1⟩
  · rcases h with h | h
    · exact x2.own.live q h
    · exact ⟨_, by rw [h, upd_same]⟩
  · rcases h with h | h
    · exact x.off q h
    · rw [h]; exact ⟨fW.1, fW.2.1, fW.2.2.1⟩
/-- one more waits -/
theorem LW.app {t c : Addr} {i : Nat} {r : List Int} (x : LW K C b p n H B W d st wt dg fp ow bs es) (ht : H t = some (.lst [.int (i : Nat), .ref c])) (hc : H c = some (.lst (vI r))) (ft : ¬ fp t ∧ t ≠ b ∧ t ≠ dg ∧ ¬ ow t) (fc : ¬ fp c ∧ c ≠ b ∧ c ≠ dg ∧ ¬ ow c) :
    LW K C b p n (upd H W (.lst (es.map V.ref ++ [.ref t]))) B W d st (wt ++ [(i, r)]) dg fp (fun q => (ow q ∨ q = c) ∨ q = t) bs (es ++ [t]) := by
  have offW := x.off W x.own.has.2
  have off : ∀ {q : Addr} {o : HO}, q ≠ W → H q = some o → upd H W (.lst (es.map V.ref ++ [.ref t])) q = some o := fun {q o} n e => by rw [upd_ne n]; exact e
  have tB : t ≠ B := fun h => ft.2.2.2 (h ▸ x.own.has.1)
  have tW : t ≠ W := fun h => ft.2.2.2 (h ▸ x.own.has.2)
  have cB : c ≠ B := fun h => fc.2.2.2 (h ▸ x.own.has.1)
  have cW : c ≠ W := fun h => fc.2.2.2 (h ▸ x.own.has.2)
  refine ⟨x.box.upd offW.2.1 offW.2.2, x.fb, x.fd, x.disk.keep fun q o f e => off (fun h => offW.1 (h ▸ f)) e, x.len, ⟨off x.own.ne x.own.hB, ?_, ?_, ?_, x.own.ne, ⟨.inl (.inl x.own.has.1), .inl (.inl x.own.has.2)⟩, fun q h => ?_⟩, fun q h => ?_⟩
  · rw [upd_same, List.map_append]
    rfl
  · exact Paired.mapP x.own.rows fun a r1 ⟨h1, h2, h3, h4⟩ => ⟨off h4 h1, .inl (.inl h2), h3, h4⟩
  · exact pair_app (Paired.mapP x.own.wait fun a e ⟨b', h1, h2, h3, h4, h5, h6, h7, h8⟩ => ⟨b', off h6 h1, off h8 h2, .inl (.inl h3), .inl (.inl h4), h5, h6, h7, h8⟩) (.cons ⟨c, off tW ht, off cW hc, .inr rfl, .inl (.inr rfl), tB, tW, cB, cW⟩ .nil)
  · by_cases e : q = W
    · exact ⟨_, by rw [e, upd_same]⟩
    · rcases h with (h | h) | h
      · obtain ⟨o, ho⟩ := x.own.live q h
        exact ⟨o, off e ho⟩
      · rw [h] at e ⊢
        exact ⟨_, off e hc⟩
      · rw [h] at e ⊢
        exact ⟨_, off e ht⟩
  · rcases h with (h | h) | h
    · exact x.off q h
    · rw [h]; exact ⟨fc.1, fc.2.1, fc.2.2.1⟩
    · rw [h]; exact ⟨ft.1, ft.2.1, ft.2.2.1⟩
end
end K42

namespace K42
open PySem PySem.Spec PyProof.Rows L2 Pg
def spLaw (K : PySem.W.Frag) : Sp := fun vs H Q _ => ∃ (a : Addr) (ns : List Int), vs = [.ref a] ∧ SqL K H a (ns.map V.int) ∧ ns.length ≤ 63 ∧ ∀ H', Q (.bl true) H'
theorem sq_same {K : PySem.W.Frag} {H H' : Hp} {a : Addr} {xs : List V} (h : SqL K H a xs) (s : Same H H') : SqL K H' a xs := by
  rcases h with (e | ⟨u, e⟩) | r
  · exact .inl (.inl (s _ _ e))
  · exact .inl (.inr ⟨u, s _ _ e⟩)
  · exact .inr r
def byteL (r : List Int) : Prop := ∀ x ∈ r, 0 ≤ x ∧ x ≤ 255
def ByteD (st : List (List Int)) (wt : List (Nat × List Int)) : Prop := (∀ r ∈ st, byteL r) ∧ ∀ e ∈ wt, byteL e.2
def leftD (d : Dk) : Int := match d.ahead with
  | none => 0 - 1
  | some n => (n : Nat)
def WalkAt (K : PySem.W.Frag) (C b p : Addr) (n : Nat) (H : Hp) (B W R : Addr) (d : Dk) : Prop := ∃ dg fp ow bs es, LW K C b p n H B W d d.st d.wt dg fp ow bs es ∧ ByteD d.st d.wt ∧ H R = some (.lst (vI d.torn)) ∧ ¬ fp R ∧ R ≠ b ∧ R ≠ dg ∧ ¬ ow R
theorem byte_set {st : List (List Int)} {i : Nat} {r : List Int} (h : ∀ r ∈ st, byteL r) (hr : byteL r) : ∀ x ∈ st.set i r, byteL x := fun x hx => (List.mem_or_eq_of_mem_set hx).elim (h x) fun e => e ▸ hr
theorem byte_get {st : List (List Int)} (h : ∀ r ∈ st, byteL r) (i : Nat) : byteL (st.getD i []) := by
  rw [List.getD_eq_getElem?_getD]
  cases e : st[i]? with
  | none => intro x hx; cases hx
  | some r => exact h r (List.mem_of_getElem? e)
theorem byte_all : ∀ (l : List (Nat × List Int)) (st : List (List Int)), (∀ r ∈ st, byteL r) → (∀ e ∈ l, byteL e.2) → ∀ r ∈ putAll st l, byteL r
  | [], st, h, _ => h
  | e :: l, st, h, hl => byte_all l (st.set e.1 e.2) (byte_set h (hl e List.mem_cons_self)) fun x hx => hl x (List.mem_cons_of_mem _ hx)
theorem byte_store : ∀ (l : List ((Nat × List Int) × Int)) (st : List (List Int)), (∀ r ∈ st, byteL r) → (∀ e ∈ l, byteL e.1.2) → ∀ r ∈ storeD st l, byteL r
  | [], st, h, _ => h
  | e :: l, st, h, hl => byte_store l (st.set e.1.1 (e.1.2.take e.2.toNat ++ (st.getD e.1.1 []).drop e.2.toNat)) (byte_set h fun x hx => (List.mem_append.mp hx).elim (fun h1 => hl e List.mem_cons_self x (List.mem_of_mem_take h1)) fun h1 => byte_get h _ x (List.mem_of_mem_drop h1)) fun x hx => hl x (List.mem_cons_of_mem _ hx)
/-- rows of bytes are told apart -/
theorem bytes_data {K : PySem.W.Frag} {H : Hp} {l : Addr} {r : List Int} (h : H l = some (.lst (vI r))) (b : byteL r) (few : r.length ≤ 32) : ∃ d, Dp K H (.ref l) d ∧ SeqAt.shaped d = true ∧ PyData.eqv d d = true ∧ ∀ (H' : Hp) (l' : Addr), H' l' = some (.lst (vI r)) → Dp K H' (.ref l') d := by
  obtain ⟨ms, rfl, hm⟩ : ∃ ms : List Nat, r = ms.map Int.ofNat ∧ ∀ m ∈ ms, m ≤ 255 := by
    clear h few
    induction r with
    | nil => exact ⟨[], rfl, by intro m h; cases h⟩
    | cons x r ih =>
      obtain ⟨ms, e, al⟩ := ih fun y hy => b y (List.mem_cons_of_mem _ hy)
      obtain ⟨h0, h1⟩ := b x List.mem_cons_self
      obtain ⟨m, rfl⟩ := Int.eq_ofNat_of_zero_le h0
      exact ⟨m :: ms, by rw [e]; rfl, fun y hy => (List.mem_cons.mp hy).elim (fun h => by rw [h]; omega) (al y)⟩
  have e : ∀ ms : List Nat, vI (ms.map Int.ofNat) = vN ms := fun ms => by unfold vI vN; rw [List.map_map]; rfl
  rw [List.length_map] at few
  have sz := sz_vN (bs := ms) (n := 32) (fun m h => by have := hm m h; omega) few
  exact ⟨_, dp_vN (by rw [h, e]), sz.shaped (by decide), (eqv_iff _ _ (noB_ints ms) (noB_ints ms)).mpr rfl, fun H' l' h' => dp_vN (by rw [h', e])⟩
/-- rows as data -/
def rowData (r : List Int) : PyData := .list (r.map PyData.int)
theorem dp_row {K : PySem.W.Frag} {H : Hp} : ∀ r : List Int, DpAll K H (vI r) (r.map PyData.int)
  | [] => .nil
  | x :: r => .cons (.int x) (dp_row r)
theorem dp_rows {K : PySem.W.Frag} {H : Hp} : ∀ {l : List Addr} {st : List (List Int)}, Paired (fun (a : Addr) (r : List Int) => H a = some (.lst (vI r))) l st → DpAll K H (l.map V.ref) (st.map rowData)
  | _, _, .nil => .nil
  | _, _, .cons h t => .cons (.lst (.inl (.inl h)) (dp_row _)) (dp_rows t)
theorem nob_row : ∀ r : List Int, noBAll (r.map PyData.int) = true
  | [] => rfl
  | x :: r => by
    show (noB (.int x) && noBAll (r.map PyData.int)) = true
    rw [nob_row r]
    rfl
theorem nob_rows : ∀ st : List (List Int), noBAll (st.map rowData) = true
  | [] => rfl
  | r :: st => by
    show (noBAll (r.map PyData.int) && noBAll (st.map rowData)) = true
    rw [nob_rows st, nob_row r]
    rfl
theorem rows_told {st : List (List Int)} (h : ∀ r ∈ st, byteL r) (l : ∀ r ∈ st, r.length ≤ 32) (few : st.length ≤ 20) : SeqAt.shaped (.list (st.map rowData)) = true ∧ PyData.eqv (.list (st.map rowData)) (.list (st.map rowData)) = true := by
  have sz : Sz 2 (20 * (32 * (0 + 1) + 1)) (.list (st.map rowData)) := by
    refine (SzA.all (D := 1) (M := 32 * (0 + 1)) (fun d hd => ?_) (by rw [List.length_map]; exact few)).lst
    obtain ⟨r, hr, rfl⟩ := List.mem_map.mp hd
    refine (SzA.all (D := 0) (M := 0) (fun d hd => ?_) (by rw [List.length_map]; exact l r hr)).lst
    obtain ⟨x, hx, rfl⟩ := List.mem_map.mp hd
    have := h r hr x hx
    exact Sz.int (by omega) (by omega)
  have nb : noB (.list (st.map rowData)) = true := nob_rows st
  exact ⟨sz.shaped (by decide), (eqv_iff _ _ nb nb).mpr rfl⟩
/-- a write or a flush, as it goes -/
theorem do_ok {K : PySem.W.Frag} {C o pw p L : Addr} {fp : Addr → Prop} {d : Dk} {H : Hp} {Q : V → Hp → Prop} {E : XK} {i : Int} {ns : List Int} (dk : DiskAt K C H p fp d) (hL : H L = some (.lst (vI ns))) (nL : ¬ fp L) (wf : d.wt.length < 10000) (bl : blockB ns = true) (ok : i = 0 - 1 ∨ atB d i = true)
    (qn : ∀ d', downD d = some d' → ∀ (H' : Hp) (fp' : Addr → Prop), ChD fp fp' H H' → DiskAt K C H' p fp' (if i = 0 - 1 then flushD d' else putD d' i.toNat ns) → Q .non H')
    (qc : downD d = none → ∀ (H' : Hp) (fp' : Addr → Prop), ChD fp fp' H H' → DiskAt K C H' p fp' (cutD d d.torn) → ∀ (t : Addr) (H3 : Hp), Same H' H3 → H3 t = some (.tup [.str "refused", .str "cut"]) → Q (.ref t) H3) : spDo K C o pw [.ref p, .int i, .ref L] H Q E := by
  by_cases e : i = 0 - 1
  · refine ⟨p, L, i, rfl, .inl ⟨e, p, fp, d, rfl, dk, fun d' hd H' fp' ch dk' => qn d' hd H' fp' ch (by rw [if_pos e]; exact dk'), fun hd H' fp' ch dk' => .inr ⟨rfl, rfl, fun t H3 s ht => qc hd H' fp' ch dk' t H3 s ht⟩⟩⟩
  · have ha := ok.resolve_left e
    have few : ns.length ≤ 10000 := by
      have := of_decide_eq_true (Bool.and_eq_true_iff.mp bl).1
      omega
    refine ⟨p, L, i, rfl, .inr ⟨e, p, L, fp, d, i, ns, rfl, dk, hL, nL, few, wf, fun h => (by rw [ha] at h; cases h), fun _ h => (by rw [bl] at h; cases h), fun _ _ d' hd H' fp' ch dk' => qn d' hd H' fp' ch (by rw [if_neg e]; exact dk'), fun _ _ hd H' fp' ch dk' => .inr ⟨rfl, rfl, fun t H3 s ht => qc hd H' fp' ch dk' t H3 s ht⟩⟩⟩
theorem left_down {d : Dk} : (downD d = none → leftD d = 0) ∧ ∀ d', downD d = some d' → leftD d ≠ 0 ∧ leftD d' = (if leftD d > 0 then leftD d - 1 else leftD d) ∧ d'.st = d.st ∧ d'.wt = d.wt ∧ d'.cuts = d.cuts ∧ d'.torn = d.torn := by
  unfold downD leftD
  cases h : d.ahead with
  | none =>
    refine ⟨(fun h => by cases h), fun d' e => ?_⟩
    rw [← Option.some.inj e, h]
    exact ⟨by decide, rfl, rfl, rfl, rfl, rfl⟩
  | some n =>
    cases n with
    | zero => exact ⟨fun _ => rfl, fun d' e => (by cases e)⟩
    | succ n =>
      refine ⟨(fun h => by cases h), fun d' e => ?_⟩
      rw [← Option.some.inj e]
      refine ⟨by show ((n + 1 : Nat) : Int) ≠ 0; omega, ?_, rfl, rfl, rfl, rfl⟩
      show ((n : Nat) : Int) = if ((n + 1 : Nat) : Int) > 0 then ((n + 1 : Nat) : Int) - 1 else _
      rw [if_pos (by omega)]
      omega
theorem if_or {t1 t2 : TT} {s1 s2 : TS} {D : Ends} {σ : L2.St} {H : Hp} (c1 c2 : Bool) (h1 : ∀ Q : Bool → Hp → Prop, Q c1 H → t1 σ H Q) (h2 : ∀ Q : Bool → Hp → Prop, Q c2 H → t2 σ H Q) (hA : s1 D σ H) (hB : s2 D σ H) : tIfS (tOr t1 t2) s1 s2 D σ H := by
  refine h1 _ ?_
  cases c1 with
  | true => exact iteT (iteT hA)
  | false => exact iteF (h2 _ (by cases c2 with
    | true => exact iteT hA
    | false => exact iteF hB))
theorem if_and {t1 t2 : TT} {s1 s2 : TS} {D : Ends} {σ : L2.St} {H : Hp} (c1 : Bool) (P : Hp → Prop) (h1 : ∀ Q : Bool → Hp → Prop, Q c1 H → t1 σ H Q) (h0 : P H) (h2 : ∀ Q : Bool → Hp → Prop, (∀ c H', P H' → Q c H') → t2 σ H Q) (hA : ∀ H', P H' → s1 D σ H') (hB : ∀ H', P H' → s2 D σ H') :
    tIfS (tAnd t1 t2) s1 s2 D σ H := by
  refine h1 _ ?_
  cases c1 with
  | true => exact iteT (h2 _ fun c H' h => by cases c with
    | true => exact iteT (hA H' h)
    | false => exact iteF (hB H' h))
  | false => exact iteF (iteF (hB H h0))
section
variable {P : Program} {w : World} {K : PySem.W.Frag} {mg : Str → Option Value} {base : Heap} {f CDisk oC oI pwC : Addr} {fd : FuncData}
theorem ok_law (F : Fun K "law" "law" s_law f fd) (z : Z mg) (T : T_Disk K mg CDisk) (kDisk : CalKX P w K mg base "Disk" CDisk 5 ["self", "blocks"] (spDInit K CDisk oC)) (cDisk_cut_power : CalMX P w K mg base CDisk "cut_power" 6 ["self", "torn"] (spDCut K CDisk oC)) (cDisk_read : CalMX P w K mg base CDisk "read" 6 ["self", "at"] (spDRead K CDisk oC)) (cDisk_pending_count : CalM P w K mg base CDisk "pending_count" 1 ["self"] (spDPend K CDisk)) (cDisk_cut_count : CalM P w K mg base CDisk "cut_count" 1 ["self"] (spDCuts K CDisk))
    (claw_digits : Cal P w K mg base "_law_digits" 2 ["script", "first", "last"] (spDigits K))
    (claw_draw : Cal P w K mg base "_law_draw" 1 ["box", "many"] spDraw) (claw_torn : Cal P w K mg base "_law_torn" 2 ["box", "many"] spTornD) (claw_schedule : Cal P w K mg base "_law_schedule" 7 ["disk", "count", "torn"] (spSched K CDisk oC)) (claw_do : Cal P w K mg base "_law_do" 10 ["disk", "at", "block"] (spDo K CDisk oC pwC)) : FnG P w K mg base 12 f fd ["script"] (spLaw K) := by
  refine FnG.mk' F sc_law (fun vs H Q E h => ?_) (fun cdv A outer s H vs Q gd hr h => ?_)
  · obtain ⟨a, ns, rfl, _⟩ := h
    rfl
  · obtain ⟨a, ns, rfl, hs, few, q⟩ := h
    refine ⟨_, (pss_cons (ps_set (i := 1) sc_law.nd rfl (Or.inr rfl) (pe_lst (pa_cons (pe_cal claw_digits (hr.mono (by decide)) (by rfl) (pa_cons (pv 0) (pa_cons pe_int (pa_cons pe_int pa_nil)))) (pa_cons pe_int pa_nil))))
      (pss_cons (ps_set (i := 2) sc_law.nd rfl (Or.inl rfl) (pe_op op_add pe_int (pe_cal claw_draw (hr.mono (by decide)) (by rfl) (pa_cons (pv 1) (pa_cons pe_int pa_nil)))))
      (pss_cons (ps_set (i := 3) sc_law.nd rfl (Or.inr rfl) (pe_mkX kDisk (hr.mono (by decide)) (by rfl) (fun σ => passAt takes0 σ) (pa_cons (pv 2) pa_nil)))
      (pss_cons (ps_setLc (i := 4) (own := [("k", 15)]) (g := (gName 15)) (tt := tYes) rfl sc_law.nd rfl rfl (sw_true rfl rfl rfl (by decide +kernel)) (pi_range1 (by rfl) z.range (pa_cons (pv 2) pa_nil)) (blkOk_by (own := [("k", 15)]) (N := ["script", "box", "size", "disk", "blocks", "pending", "left", "torn", "cuts", "turn", "kind", "handed", "at", "block", "actual", "k", "place", "entry"]) (sc := defScope s_law) (by decide +kernel)) (fun _ _ _ _ _ => pg_name (i := 15) sc_law.nd rfl (Or.inl rfl)) (fun _ _ _ _ _ => pts_nil) (fun _ _ _ _ _ => (pe_op op_rep (pe_lst (pa_cons pe_int pa_nil)) pe_int)))
      (pss_cons (ps_set (i := 5) sc_law.nd rfl (Or.inl rfl) (pe_lst pa_nil))
      (pss_cons (ps_set (i := 6) sc_law.nd rfl (Or.inl rfl) (pe_op op_sub pe_int pe_int))
      (pss_cons (ps_set (i := 7) sc_law.nd rfl (Or.inl rfl) (pe_lst pa_nil))
      (pss_cons (ps_set (i := 8) sc_law.nd rfl (Or.inl rfl) pe_int)
      (pss_cons (ps_for PassesOwn.never rfl (pi_range1 (by rfl) z.range (pa_cons pe_int pa_nil)) (pg_name (i := 9) sc_law.nd rfl (Or.inl rfl))
        (pss_cons (ps_set (i := 10) sc_law.nd rfl (Or.inl rfl) (pe_cal claw_draw (hr.mono (by decide)) (by rfl) (pa_cons (pv 1) (pa_cons pe_int pa_nil))))
        (C8.pss_cut (ps_if (PW.pt (pw_or (pt_cmpR op_eq (pv 10) pe_int (nomark _)) (pw_or1 (pt_cmpR op_eq (pv 9) pe_int (nomark _)))))
          (pss_cons (ps_set (i := 6) sc_law.nd rfl (Or.inl rfl) (pe_cal claw_draw (hr.mono (by decide)) (by rfl) (pa_cons (pv 1) (pa_cons pe_int pa_nil))))
          (pss_cons (ps_set (i := 7) sc_law.nd rfl (Or.inl rfl) (pe_cal claw_torn (hr.mono (by decide)) (by rfl) (pa_cons (pv 1) (pa_cons pe_int pa_nil))))
          (pss_cons (ps_set (i := 11) sc_law.nd rfl (Or.inl rfl) (pe_callTy call_list_of (by rfl) z.list (by decide +kernel) (pa_cons (pv 7) pa_nil)))
          (pss_cons (ps_if (PW.pt (pw_or (pt_cmpR op_notN (pe_cal claw_schedule (hr.mono (by decide)) (by rfl) (pa_cons (pv 3) (pa_cons pe_int (pa_cons (pe_lst (pa_cons pe_int pa_nil)) pa_nil)))) pe_non (nomark _)) (pw_or1 (pt_cmpR op_notN (pe_cal claw_schedule (hr.mono (by decide)) (by rfl) (pa_cons (pv 3) (pa_cons (pv 6) (pa_cons (pv 11) pa_nil)))) pe_non (nomark _)))))
            (pss_one (ps_ret pe_bl))
            pss_nil)
          (pss_cons (ps_expr (pe_bm PySem.F.plainAttrs_list PySem.F.slot_list_append PySem.F.type_list_append mt_append (pv 11) (pa_cons pe_int pa_nil)))
          (pss_cons (ps_if (pt_cmpR (op_neD hr.units) (pe_cal claw_schedule (hr.mono (by decide)) (by rfl) (pa_cons (pv 3) (pa_cons (pe_ix ix_list (pe_lst (pa_cons (pe_op op_sub pe_int pe_int) (pa_cons pe_int pa_nil))) (pe_cal claw_draw (hr.mono (by decide)) (by rfl) (pa_cons (pv 1) (pa_cons pe_int pa_nil))) (fun _ _ => rfl)) (pa_cons (pe_lst (pa_cons pe_int pa_nil)) pa_nil)))) (pe_tup (pa_cons pe_str (pa_cons pe_str pa_nil))) (nomark _))
            (pss_one (ps_ret pe_bl))
            pss_nil)
          (pss_one (ps_if (pt_cmpR (op_neD hr.units) (pe_cal claw_schedule (hr.mono (by decide)) (by rfl) (pa_cons (pv 3) (pa_cons pe_int (pa_cons (pe_lst (pa_cons pe_int pa_nil)) pa_nil)))) (pe_tup (pa_cons pe_str (pa_cons pe_str pa_nil))) (nomark _))
            (pss_one (ps_ret pe_bl))
            pss_nil))))))))
          (pss_one (ps_if (PW.pt (pw_and (pt_cmpR op_eq (pv 10) pe_int (nomark _)) (pw_and1 (pt_cmpR op_eq (pe_cal claw_draw (hr.mono (by decide)) (by rfl) (pa_cons (pv 1) (pa_cons pe_int pa_nil))) pe_int (nomark _)))))
            (pss_cons (ps_expr (pe_calMX cDisk_cut_power (hr.mono (by decide)) (fun σ => passAt takes0 σ) (pv 3) (pa_cons (pe_lst pa_nil) pa_nil)))
            (pss_cons (ps_set (i := 5) sc_law.nd rfl (Or.inl rfl) (pe_lst pa_nil))
            (pss_cons (ps_set (i := 6) sc_law.nd rfl (Or.inl rfl) (pe_op op_sub pe_int pe_int))
            (pss_one (ps_set (i := 8) sc_law.nd rfl (Or.inl rfl) (pe_op op_add (pv 8) pe_int))))))
            (pss_one (ps_if (pt_cmpR op_eq (pv 10) pe_int (nomark _))
              (pss_one (ps_if (PW.pt (pw_or (pt_cmpR (op_neD hr.units) (pe_cal claw_do (hr.mono (by decide)) (by rfl) (pa_cons (pv 3) (pa_cons (pv 2) (pa_cons (pe_op op_rep (pe_lst (pa_cons pe_int pa_nil)) pe_int) pa_nil)))) (pe_tup (pa_cons pe_str (pa_cons pe_str pa_nil))) (nomark _)) (pw_or1 (pt_cmpR (op_neD hr.units) (pe_cal claw_do (hr.mono (by decide)) (by rfl) (pa_cons (pv 3) (pa_cons pe_int (pa_cons (pe_op op_rep (pe_lst (pa_cons pe_int pa_nil)) pe_int) pa_nil)))) (pe_tup (pa_cons pe_str (pa_cons pe_str pa_nil))) (nomark _)))))
                (pss_one (ps_ret pe_bl))
                pss_nil))
              (pss_cons (ps_set (i := 12) sc_law.nd rfl (Or.inl rfl) (pe_op op_sub pe_int pe_int))
              (C8.pss_cut (ps_if (pt_cmpR op_gt (pv 10) pe_int (nomark _))
                (pss_one (ps_set (i := 12) sc_law.nd rfl (Or.inl rfl) (pe_cal claw_draw (hr.mono (by decide)) (by rfl) (pa_cons (pv 1) (pa_cons (pv 2) pa_nil)))))
                pss_nil)
              (pss_cons (ps_setLc (i := 13) (own := [("k", 15)]) (g := (gName 15)) (tt := tYes) rfl sc_law.nd rfl rfl (sw_true rfl rfl rfl (by decide +kernel)) (pi_range1 (by rfl) z.range (pa_cons pe_int pa_nil)) (blkOk_by (own := [("k", 15)]) (N := ["script", "box", "size", "disk", "blocks", "pending", "left", "torn", "cuts", "turn", "kind", "handed", "at", "block", "actual", "k", "place", "entry"]) (sc := defScope s_law) (by decide +kernel)) (fun _ _ _ _ _ => pg_name (i := 15) sc_law.nd rfl (Or.inl rfl)) (fun _ _ _ _ _ => pts_nil) (fun _ _ _ _ _ => (pe_op op_add pe_int (pe_cal claw_draw (hr.mono (by decide)) (by rfl) (pa_cons (pv 1) (pa_cons pe_int pa_nil))))))
              (pss_cons (ps_set (i := 14) sc_law.nd rfl (Or.inl rfl) (pe_cal claw_do (hr.mono (by decide)) (by rfl) (pa_cons (pv 3) (pa_cons (pv 12) (pa_cons (pe_callTy call_list_of (by rfl) z.list (by decide +kernel) (pa_cons (pv 13) pa_nil)) pa_nil)))))
              (pss_one (ps_if (pt_cmpR op_eq (pv 6) pe_int (nomark _))
                (pss_cons (ps_if (pt_cmpR (op_neD hr.units) (pv 14) (pe_tup (pa_cons pe_str (pa_cons pe_str pa_nil))) (nomark _))
                  (pss_one (ps_ret pe_bl))
                  pss_nil)
                (pss_cons (ps_for PassesOwn.never rfl (pi_range1 (by rfl) z.range (pa_cons (pe_callB (call_min2 rfl) (by rfl) z.min (by decide +kernel) (pa_cons (pe_callB call_len_seq (by rfl) z.len PySem.boot_len (pa_cons (pv 7) pa_nil)) (pa_cons (pe_callB call_len_seq (by rfl) z.len PySem.boot_len (pa_cons (pv 5) pa_nil)) pa_nil))) pa_nil)) (pg_name (i := 15) sc_law.nd rfl (Or.inl rfl))
                  (pss_cons (ps_set (i := 16) sc_law.nd rfl (Or.inl rfl) (pe_ix ix_list (pe_ix ix_list (pv 5) (pv 15) (fun _ _ => rfl)) pe_int (fun _ _ => rfl)))
                  (pss_one (ps_asg (pe_op op_cat (pe_slice sl_list (pe_ix ix_list (pe_ix ix_list (pv 5) (pv 15) (fun _ _ => rfl)) pe_int (fun _ _ => rfl)) po_none (po_some (pe_ix ix_list (pv 7) (pv 15) (fun _ _ => rfl)))) (pe_slice sl_list (pe_ix ix_list (pv 4) (pv 16) (fun _ _ => rfl)) (po_some (pe_ix ix_list (pv 7) (pv 15) (fun _ _ => rfl))) po_none)) (pg_sub (pv 4) (pv 16) set_list)))))
                (pss_cons (ps_set (i := 5) sc_law.nd rfl (Or.inl rfl) (pe_lst pa_nil))
                (pss_cons (ps_set (i := 6) sc_law.nd rfl (Or.inl rfl) (pe_op op_sub pe_int pe_int))
                (pss_one (ps_set (i := 8) sc_law.nd rfl (Or.inl rfl) (pe_op op_add (pv 8) pe_int)))))))
                (pss_cons (ps_if (pt_cmpR op_notN (pv 14) pe_non (nomark _))
                  (pss_one (ps_ret pe_bl))
                  pss_nil)
                (C8.pss_cut (ps_if (pt_cmpR op_gt (pv 6) pe_int (nomark _))
                  (pss_one (ps_set (i := 6) sc_law.nd rfl (Or.inl rfl) (pe_op op_sub (pv 6) pe_int)))
                  pss_nil)
                (pss_one (ps_if (pt_cmpR op_eq (pv 12) (pe_op op_sub pe_int pe_int) (nomark _))
                  (pss_cons (ps_for PassesOwn.never rfl (pi_list (pv 5)) (pg_name (i := 17) sc_law.nd rfl (Or.inl rfl))
                    (pss_one (ps_asg (pe_ix ix_list (pv 17) pe_int (fun _ _ => rfl)) (pg_sub (pv 4) (pe_ix ix_list (pv 17) pe_int (fun _ _ => rfl)) set_list))))
                  (pss_one (ps_set (i := 5) sc_law.nd rfl (Or.inl rfl) (pe_lst pa_nil))))
                  (pss_one (ps_expr (pe_bm PySem.F.plainAttrs_list PySem.F.slot_list_append PySem.F.type_list_append mt_append (pv 5) (pa_cons (pe_lst (pa_cons (pv 12) (pa_cons (pv 13) pa_nil))) pa_nil)))))))))))))))))))
        (pss_one (ps_if (PW.pt (pw_or (pt_cmpR op_ne (pe_calM0 cDisk_pending_count (hr.mono (by decide)) (pv 3)) (pe_callB call_len_seq (by rfl) z.len PySem.boot_len (pa_cons (pv 5) pa_nil)) (nomark _)) (pw_or1 (pt_cmpR op_ne (pe_calM0 cDisk_cut_count (hr.mono (by decide)) (pv 3)) (pv 8) (nomark _)))))
          (pss_one (ps_ret pe_bl))
          pss_nil)))))
      (pss_cons (ps_expr (pe_calMX cDisk_cut_power (hr.mono (by decide)) (fun σ => passAt takes0 σ) (pv 3) (pa_cons (pe_lst pa_nil) pa_nil)))
      (pss_one (ps_ret (pe_cmpR (op_eqD hr.units) (pe_lc (own := [("at", 12)]) (g := (gName 12)) (tt := tYes) rfl sc_law.nd (pi_range1 (by rfl) z.range (pa_cons (pv 2) pa_nil)) (blkOk_by (own := [("at", 12)]) (N := ["script", "box", "size", "disk", "blocks", "pending", "left", "torn", "cuts", "turn", "kind", "handed", "at", "block", "actual", "k", "place", "entry"]) (sc := defScope s_law) (by decide +kernel)) (fun _ _ _ _ _ => pg_name (i := 12) sc_law.nd rfl (Or.inl rfl)) (fun _ _ _ _ _ => pts_nil) (fun _ _ _ _ _ => (pe_calMX cDisk_read (hr.mono (by decide)) (fun σ => passAt takes0 σ) (pv 3) (pa_cons (pv 12) pa_nil)))) (pv 4) (nomark _)))))))))))))), ?_⟩
    -- the box
    refine ⟨.ref a, rfl, a, ns, 0, 63, rfl, hs, by decide, by decide, fun H1 pd ds sm np hp fewd => ?_⟩
    refine ⟨by show 2 ≤ sizeLine; decide, fun b nb => ?_⟩
    have npb : pd ≠ b := ne_of_none hp nb
    have box0 : Box (upd H1 b (.lst [.ref pd, .int 0])) b := ⟨pd, ds, 0, upd_same, by rw [upd_ne npb]; exact hp, npb, fewd⟩
    have hsA : ∀ H', Drew b (upd H1 b (.lst [.ref pd, .int 0])) H' → SqL K H' a (ns.map V.int) := fun H' D => by
      have kp : ∀ {o : HO}, H1 a = some o → H' a = some o := fun {o} e => D.keep a o (ne_of_none e nb) (same_new nb _ _ e)
      rcases sq_same hs sm with (e | ⟨u, e⟩) | r
      · exact .inl (.inl (kp e))
      · exact .inl (.inr ⟨u, kp e⟩)
      · exact .inr r
    generalize upd H1 b (.lst [.ref pd, .int 0]) = G1 at box0 hsA ⊢
    clear hp nb npb np sm hs fewd
    -- the size
    refine ⟨.ref b, rfl, b, 4, rfl, by decide, box0, fun r1 H4 l1 u1 D4 => ⟨_, _, rfl, rfl, ?_⟩⟩
    obtain ⟨m1, rfl⟩ := Int.eq_ofNat_of_zero_le l1
    obtain ⟨n, en, nn⟩ : ∃ n : Nat, (8 : Int) + (m1 : Nat) = (n : Nat) ∧ (8 ≤ n ∧ n ≤ 11) := ⟨8 + m1, by omega, by omega⟩
    show gName 2 (V.int ((8 : Int) + (m1 : Nat))) _ _ _
    rw [en]
    obtain ⟨dg, bx4⟩ := D4.box
    clear hsA D4 box0 en
    -- the disk
    refine ⟨_, rfl, ?_⟩
    intro p dx np ndx nex
    refine ⟨p, dx, (n : Nat), rfl, upd_same, fun e H5 fp keep fnew dk => ⟨rfl, ?_⟩, fun e => absurd (by omega) e⟩
    have s5 : Same H4 H5 := fun q o eb => keep q o (ne_of_none eb np) (by
      rw [upd_ne (ne_of_none eb np), upd_ne (ne_of_none eb ndx)]
      exact eb)
    have live4 : ∀ {q : Addr} {o : HO}, H4 q = some o → ¬ fp q := fun {q o} e f => by
      rcases fnew q f with h | h
      · rw [h, np] at e; cases e
      · rw [upd_ne (ne_of_none e np), upd_ne (ne_of_none e ndx), e] at h
        cases h
    -- the law's own rows
    refine ⟨_, rfl, (n : Nat), rfl, by omega, Int.lt_of_le_of_lt (b := 400) (by omega) (by decide), fun B nB => ?_⟩
    refine lc_rows0 (n := n) nB (by omega) (fun i H R hR => hR _ rfl) fun H6 ⟨ss, hB, rows, s6⟩ => ?_
    refine ⟨Nat.zero_le _, fun W nW => ?_⟩
    refine ⟨_, _, rfl, rfl, Nat.zero_le _, fun R nR => ?_⟩
    have s7 := same_new (o := .lst []) nW
    have lw6 : ∃ dg fp ow bs es, LW K CDisk b p n (upd H6 W (.lst [])) B W (newD n) (newD n).st (newD n).wt dg fp ow bs es ∧ ByteD (newD n).st (newD n).wt := by
      obtain ⟨ds4, m4, e1, e2, _⟩ := bx4
      have s57 := s5.trans (s6.trans s7)
      have al : ∀ q : Addr, H5 q = none → ¬ fp q ∧ q ≠ b ∧ q ≠ dg := fun q h => ⟨dk.live h, (ne_of_none (s5 _ _ e1) h).symm, (ne_of_none (s5 _ _ e2) h).symm⟩
      have nW5 := back_none s6 nW
      refine ⟨dg, fp, fun q => q = B ∨ q = W ∨ (H5 q = none ∧ ∃ o, H6 q = some o), ss, [], ⟨BoxAt.same ⟨ds4, m4, e1, e2, by assumption⟩ s57, live4 e1, live4 e2, dk.same (s6.trans s7), List.length_replicate, ⟨s7 _ _ hB, upd_same, ?_, .nil, ne_of_none hB nW, ⟨.inl rfl, .inr (.inl rfl)⟩, fun q h => ?_⟩, fun q h => ?_⟩, ?_, by intro e h; cases h⟩
      · exact Paired.mapP rows fun q r ⟨h1, h2, h3⟩ => ⟨s7 _ _ h1, .inr (.inr ⟨h2, _, h1⟩), h3, ne_of_none h1 nW⟩
      · rcases h with h | h | ⟨_, o, h⟩
        · exact ⟨_, by rw [h]; exact s7 _ _ hB⟩
        · exact ⟨_, by rw [h]; exact upd_same⟩
        · exact ⟨o, s7 _ _ h⟩
      · rcases h with h | h | ⟨h, _⟩
        · rw [h]; exact al B nB
        · rw [h]; exact al W nW5
        · exact al q h
      · intro r hr
        rw [(List.mem_replicate.mp hr).2]
        intro x hx
        rw [(List.mem_replicate.mp hx).2]
        decide
    have lw7 : WalkAt K CDisk b p n (upd (upd H6 W (.lst [])) R (.lst [])) B W R (newD n) := by
      obtain ⟨dg, fp, ow, bs, es, lw, byt⟩ := lw6
      have f := lw.fresh nR
      exact ⟨dg, fp, ow, bs, es, lw.same (same_new nR), byt, upd_same, f⟩
    generalize upd (upd H6 W (.lst [])) R (.lst []) = H7 at lw7 ⊢
    clear lw6 bx4 s5 s6 s7 rows hB nW nB dk keep fnew live4 np ndx nex nR
    -- the turns
    refine ⟨40, rfl, by decide, by decide, ?_⟩
    refine for_range (lo := 0) (n := 40) (fun i σ H' => ∃ (W R : Addr) (d : Dk) (y9 y10 y11 y12 y13 y14 y15 y16 y17 : Option V), σ = [some (.ref a), some (.ref b), some (.int (n : Nat)), some (.ref p), some (.ref B), some (.ref W), some (.int (leftD d)), some (.ref R), some (.int (d.cuts : Nat)), y9, y10, y11, y12, y13, y14, y15, y16, y17] ∧ WalkAt K CDisk b p n H' B W R d ∧ d.wt.length ≤ i)
      ⟨W, R, newD n, _, _, _, _, _, _, _, _, _, rfl, lw7, Nat.le_refl _⟩ ?_ ?_
    · clear lw7
      rintro i σ H8 hi ⟨W, R, d, y9, y10, y11, y12, y13, y14, y15, y16, y17, rfl, ⟨dg, fp, ow, bs, es, lw, byt, hR, fR⟩, wi⟩
      refine ⟨.ref b, rfl, b, 10, rfl, by decide, ⟨dg, lw.box⟩, fun r10 H9 l10 u10 d9 => ?_⟩
      refine ⟨fun σ' H' => ∃ (W R : Addr) (d : Dk) (z11 z12 z13 z14 z15 z16 z17 : Option V), σ' = [some (.ref a), some (.ref b), some (.int (n : Nat)), some (.ref p), some (.ref B), some (.ref W), some (.int (leftD d)), some (.ref R), some (.int (d.cuts : Nat)), some (.int (0 + (i : Nat))), some (.int r10), z11, z12, z13, z14, z15, z16, z17] ∧ WalkAt K CDisk b p n H' B W R d ∧ d.wt.length ≤ i + 1, ?_, ?_⟩
      · have lw9 := lw.drew d9
        have hR9 := d9.keep R _ fR.2.1 hR
        obtain ⟨dx, S, W0, T0, ss0, ws0, x9⟩ := lw9.disk
        have ok9 := x9.ok
        have ph9 := x9.hp
        clear x9 lw d9 hR
        have lwt : (es.map V.ref).length = d.wt.length := by rw [List.length_map, pair_len lw9.own.wait]
        -- the ways
        refine if_or (decide (V.int r10 = .int 0)) (decide (V.int (0 + (i : Nat)) = .int 0)) (fun Q hq => ⟨_, rfl, rfl, _, rfl, hq⟩) (fun Q hq => ⟨_, rfl, rfl, _, rfl, hq⟩) ?_ ?_
        · -- a cut is scheduled
          refine ⟨.ref b, rfl, b, 21, rfl, by decide, ⟨dg, lw9.box⟩, fun rm H10 lm um d10 => ?_⟩
          have lw10 := lw9.drew d10
          obtain ⟨m, rfl⟩ := Int.eq_ofNat_of_zero_le lm
          refine ⟨_, rfl, b, 9, rfl, by decide, by decide, ⟨dg, lw10.box⟩, fun ts H11 L d11 nL hL lim tl => ?_⟩
          have fL := lw10.fresh nL
          have lw11 := lw10.drew d11
          have wts : withinB ts 32 = true := List.all_eq_true.mpr fun x hx => decide_eq_true (lim x hx)
          refine ⟨_, rfl, L, _, rfl, .inl (.inl (.inl hL)), fun l nl => ?_⟩
          have fl := lw11.fresh nl
          have sl := same_new (o := .lst (vI ts)) nl
          have lw12 := lw11.same sl
          have hL12 := sl _ _ hL
          have hl12 := @upd_same H11 l (.lst (vI ts))
          have Ll : L ≠ l := ne_of_none hL nl
          generalize upd H11 l (.lst (vI ts)) = H12 at lw12 hL12 hl12 ⊢
          clear sl lw11 lw10 d10 d11 nL nl hL
          -- one, and another behind it
          refine ⟨_, rfl, by show 1 ≤ sizeLine; decide, fun q1 nq1 => ?_⟩
          have s1 := same_new (o := .lst [V.int 32]) nq1
          refine ⟨p, q1, fp, d, 100000, [32], rfl, (lw12.same s1).disk, upd_same, by decide, fun _ _ H13 fp1 ch1 dk1 => ⟨rfl, _, rfl, iteF ?_⟩, fun h => absurd h (by decide), fun _ h => absurd h (by decide)⟩
          have lw13 := (lw12.same s1).chd (d' := schedD d 100000 [32]) ch1 dk1 lw9.len
          have up1 : ∀ {q : Addr} {o : HO}, ¬ fp q → H12 q = some o → H13 q = some o ∧ ¬ fp1 q := fun {q o} h e => ⟨ch1.keep q o h (s1 _ _ e), fun f => by
            rcases ch1.new q f with g | g
            · exact h g
            · rw [s1 _ _ e] at g; cases g⟩
          obtain ⟨hL13, fL1⟩ := up1 fL.1 hL12
          obtain ⟨hl13, fl1⟩ := up1 fl.1 hl12
          clear up1 ch1 dk1 s1 nq1
          refine ⟨_, rfl, _, rfl, _, rfl, p, l, fp1, schedD d 100000 [32], (m : Nat), ts, rfl, lw13.disk, hl13, by omega, fun _ _ H14 fp2 ch2 dk2 => ⟨rfl, _, rfl, iteF ?_⟩, fun h => absurd h (by rw [show manyB (m : Nat) = true from decide_eq_true (by omega)]; decide), fun _ h => by rw [wts] at h; cases h⟩
          have lw14 := lw13.chd (d' := schedD d m ts) ch2 dk2 lw9.len
          have up2 : ∀ {q : Addr} {o : HO}, ¬ fp1 q → H13 q = some o → H14 q = some o ∧ ¬ fp2 q := fun {q o} h e => ⟨ch2.keep q o h e, fun f => by
            rcases ch2.new q f with g | g
            · exact h g
            · rw [e] at g; cases g⟩
          obtain ⟨hL14, fL2⟩ := up2 fL1 hL13
          obtain ⟨hl14, fl2⟩ := up2 fl1 hl13
          clear up2 ch2 dk2
          refine ⟨.ref l, rfl, .inl ⟨rfl, _, .inl (.inl hl14)⟩, l, _, _, rfl, rfl, hl14, by rw [vI_len]; exact small5 (by omega), ?_⟩
          have lw15 := lw14.elsewhere (o := .lst (vI ts ++ [V.int 1])) ⟨fl2, fl.2⟩
          have hL15 : (upd H14 l (.lst (vI ts ++ [V.int 1]))) L = some (.lst (vI ts)) := by rw [upd_ne Ll]; exact hL14
          generalize upd H14 l (.lst (vI ts ++ [V.int 1])) = H15 at lw15 hL15 ⊢
          -- what is refused
          refine ⟨_, rfl, _, _, rfl, rfl, by show 2 ≤ sizeLine; decide, fun a3 na3 => ?_⟩
          have s3 := same_new (o := .lst [V.int (0 - 1), .int 100001]) na3
          refine ⟨.ref b, rfl, b, 2, rfl, by decide, ⟨dg, (lw15.same s3).box⟩, fun r3 H16 l3 u3 d16 => ?_⟩
          obtain ⟨mi, ati, bad⟩ : ∃ mi : Int, atI [V.int (0 - 1), .int 100001] r3 = some (.int mi) ∧ manyB mi = false := by
            obtain rfl | rfl : r3 = 0 ∨ r3 = 1 := by omega
            · exact ⟨_, rfl, by decide⟩
            · exact ⟨_, rfl, by decide⟩
          refine ⟨a3, _, _, _, rfl, rfl, .inl (.inl (d16.keep a3 _ (lw15.fresh na3).2.1 upd_same)), ati, by show 1 ≤ sizeLine; decide, fun q4 nq4 => ?_⟩
          have s4 := same_new (o := .lst [V.int 33]) nq4
          have lw16 := (lw15.same s3).drew d16
          have hL16 := d16.keep L _ fL.2.1 (s3 _ _ hL15)
          refine ⟨p, q4, fp2, schedD d m ts, mi, [33], rfl, (lw16.same s4).disk, upd_same, by decide, fun h => (by rw [bad] at h; cases h), fun _ dd H' s hd => ⟨rfl, dd, _, rfl, hd, fun t4 H17 s17 ht4 => ref_ne ht4 (.inr (.inr (.inr (.inl rfl)))) fun H18 s18 => ⟨_, rfl, iteF ?_⟩⟩, fun h => (by rw [bad] at h; cases h)⟩
          have s5 := ((s4.trans s).trans s17).trans s18
          have lw18 := lw16.same s5
          have hL18 := s5 _ _ hL16
          refine ⟨_, rfl, by show 1 ≤ sizeLine; decide, fun q5 nq5 => ?_⟩
          have s6 := same_new (o := .lst [V.int 33]) nq5
          refine ⟨p, q5, fp2, schedD d m ts, 3, [33], rfl, (lw18.same s6).disk, upd_same, by decide, fun _ h => absurd h (by decide), fun h => absurd h (by decide), fun _ _ dd H' s' hd => ⟨rfl, dd, _, rfl, hd, fun t6 H19 s19 ht6 => ref_ne ht6 (.inr (.inr (.inl rfl))) fun H20 s20 => ⟨_, rfl, iteF ?_⟩⟩⟩
          have s7 := ((s6.trans s').trans s19).trans s20
          exact ⟨W, L, schedD d m ts, _, _, _, _, _, _, _, rfl, ⟨dg, fp2, ow, bs, es, lw18.same s7, byt, s7 _ _ hL18, fL2, fL.2⟩, by show d.wt.length ≤ i + 1; omega⟩
        · refine if_and (decide (V.int r10 = .int 1)) (fun H' => Drew b H9 H') (fun Q hq => ⟨_, rfl, rfl, _, rfl, hq⟩) (.of ⟨dg, lw9.box⟩ (Same.refl _)) (fun Q hq => ⟨.ref b, rfl, b, 4, rfl, by decide, ⟨dg, lw9.box⟩, fun r4 H10 _ _ d10 => ⟨rfl, _, rfl, hq _ _ d10⟩⟩) ?_ ?_
          · -- a cut at once
            intro H10 d10
            have lw10 := lw9.drew d10
            have hR10 := d10.keep R _ fR.2.1 hR9
            obtain ⟨dx, S, W0, T0, ss0, ws0, x10⟩ := lw10.disk
            refine ⟨_, rfl, p, dx, _, rfl, x10.hp, rfl, Nat.zero_le _, fun z nz => ?_⟩
            have sz := same_new (o := .lst []) nz
            refine ⟨p, z, fp, d, [], rfl, (lw10.same sz).disk, upd_same, by decide, fun _ H11 fp1 ch1 dk1 => ?_, fun h => absurd h (by decide)⟩
            have lw11 := (lw10.same sz).chd (d' := cutD d []) ch1 dk1 (by show (storeD _ _).length = n; rw [storeD_len]; exact lw9.len)
            have est : (cutD d []).st = d.st := by
              show storeD d.st (d.wt.zip ([] ++ List.replicate (d.wt.length - 0) 0)) = d.st
              rw [List.nil_append]
              exact store_zero _ _ _
            have hR11 := ch1.keep R _ fR.1 (sz _ _ hR10)
            have fR1 : ¬ fp1 R := fun f => by
              rcases ch1.new R f with g | g
              · exact fR.1 g
              · rw [sz _ _ hR10] at g; cases g
            refine ⟨Nat.zero_le _, fun W2 nW2 => ?_⟩
            rw [← est] at lw11
            exact ⟨_, _, rfl, rfl, _, rfl, _, _, rfl, rfl, W2, R, cutD d [], _, _, _, _, _, _, _, rfl, ⟨dg, fp1, _, _, _, lw11.newW nW2, ⟨by rw [est]; exact byt.1, by intro e h; cases h⟩, same_new nW2 _ _ hR11, fR1, fR.2.1, fR.2.2.1, fun h => Or.elim h fR.2.2.2 (ne_of_none hR11 nW2)⟩, Nat.zero_le _⟩
          · intro H10 d10
            have lw10 := lw9.drew d10
            have hR10 := d10.keep R _ fR.2.1 hR9
            clear lw9 hR9 d10
            refine ⟨_, rfl, rfl, _, rfl, ite2 (fun _ => ?_) (fun _ => ?_)⟩
            · -- what is refused
              refine ⟨_, rfl, _, rfl, mk0 32 (by decide) fun Z H11 s11 nZ hZ => ?_⟩
              have lw11 := lw10.same s11
              have at0 : atB d (n : Nat) = false := decide_eq_false (by rw [lw10.len]; omega)
              refine ⟨p, Z, (n : Nat), rfl, .inr ⟨by omega, p, Z, fp, d, (n : Nat), _, rfl, lw11.disk, hZ, (lw10.fresh nZ).1, by decide, by omega, fun _ dd H' s hd => .inl ⟨rfl, dd, _, rfl, hd, fun t1 H12 s12 ht1 => ref_ne ht1 (.inl rfl) fun H13 s13 => ⟨_, rfl, iteF ?_⟩⟩, fun h => (by rw [at0] at h; cases h), fun h => (by rw [at0] at h; cases h), fun h => (by rw [at0] at h; cases h)⟩⟩
              have s14 := ((s11.trans s).trans s12).trans s13
              refine ⟨_, rfl, mk0 31 (by decide) fun Z2 H15 s15 nZ2 hZ2 => ?_⟩
              have lw15 := (lw10.same s14).same s15
              have at1 : atB d 0 = true := decide_eq_true (by rw [lw10.len]; omega)
              refine ⟨p, Z2, 0, rfl, .inr ⟨by decide, p, Z2, fp, d, 0, _, rfl, lw15.disk, hZ2, ((lw10.same s14).fresh nZ2).1, by decide, by omega, fun h => (by rw [at1] at h; cases h), fun _ _ dd H' s' hd => .inl ⟨rfl, dd, _, rfl, hd, fun t2 H16 s16 ht2 => ref_ne ht2 (.inr (.inl rfl)) fun H17 s17 => ⟨_, rfl, iteF ?_⟩⟩, fun _ h => absurd h (by decide), fun _ h => absurd h (by decide)⟩⟩
              have s18 := s14.trans (((s15.trans s').trans s16).trans s17)
              exact ⟨W, R, d, _, _, _, _, _, _, _, rfl, ⟨dg, fp, ow, bs, es, lw10.same s18, byt, s18 _ _ hR10, fR⟩, by omega⟩
            · refine ⟨_, _, rfl, rfl, ?_⟩
              refine ⟨fun σ' H' => ∃ at_ : Int, σ' = [some (.ref a), some (.ref b), some (.int (n : Nat)), some (.ref p), some (.ref B), some (.ref W), some (.int (leftD d)), some (.ref R), some (.int (d.cuts : Nat)), some (.int (0 + (i : Nat))), some (.int r10), y11, some (.int at_), y13, y14, y15, y16, y17] ∧ (at_ = 0 - 1 ∨ ∃ k : Nat, at_ = (k : Nat) ∧ k < n) ∧ Drew b H10 H', ?_, ?_⟩
              · refine ⟨_, rfl, _, _, rfl, rfl, _, rfl, ite2 (fun _ => ?_) (fun _ => ?_)⟩
                · refine ⟨.ref b, rfl, _, rfl, b, _, rfl, by omega, ⟨dg, lw10.box⟩, fun ra H11 la ua d11 => ⟨_, rfl, .inr ?_, d11⟩⟩
                  obtain ⟨k, rfl⟩ := Int.eq_ofNat_of_zero_le la
                  exact ⟨k, rfl, by omega⟩
                · exact ⟨_, rfl, .inl rfl, .of ⟨dg, lw10.box⟩ (Same.refl _)⟩
              · rintro σ' H11 ⟨at_, rfl, hat, d11⟩
                have lw11 := lw10.drew d11
                have hR11 := d11.keep R _ fR.2.1 hR10
                clear lw10 hR10 d11
                refine ⟨32, rfl, by decide, by decide, fun L nL => ?_⟩
                have fL := lw11.fresh nL
                refine lc_draws (n := 32) (b := b) 15 (fun x => 0 ≤ x ∧ x ≤ 255) (.of ⟨dg, lw11.box⟩ (Same.refl _)) nL (by decide) (fun i H R hR => hR _ rfl rfl) ?_ (fun H12 ns d12 hL l32 byN => ?_)
                · rintro x H2 R hb2 hR
                  exact ⟨.ref b, rfl, b, 255, rfl, by decide, hb2, fun r2 H3 l2 u2 d3 => ⟨_, _, rfl, rfl, hR _ H3 (by omega) d3⟩⟩
                have lw12 := lw11.drew d12
                have hR12 := d12.keep R _ fR.2.1 hR11
                have bl : blockB ns = true := by
                  unfold blockB withinB
                  rw [decide_eq_true l32, Bool.true_and]
                  exact List.all_eq_true.mpr fun x hx => decide_eq_true (byN x hx)
                have RL : R ≠ L := ne_of_none hR11 nL
                clear lw11 hR11 d12 nL
                refine ⟨_, rfl, _, rfl, _, rfl, L, _, rfl, .inl (.inl (.inl hL)), fun l nl => ?_⟩
                have fl := lw12.fresh nl
                have sl := same_new (o := .lst (vI ns)) nl
                have lw13 := lw12.same sl
                have hR13 := sl _ _ hR12
                have hL13 := sl _ _ hL
                have hl13 := @upd_same H12 l (.lst (vI ns))
                generalize upd H12 l (.lst (vI ns)) = H13 at lw13 hR13 hL13 hl13 ⊢
                clear lw12 hR12 sl nl hL
                refine do_ok (E := fun _ _ _ => False) lw13.disk hl13 fl.1 (by omega) bl (hat.imp id fun ⟨k, e, h⟩ => by rw [e]; exact decide_eq_true (by rw [lw13.len]; omega)) (fun d' hd H14 fp1 ch dk => ?_) (fun hd H14 fp1 ch dk t1 H15 s15 ht => ?_)
                · obtain ⟨ne0, lf, e1, e2, e3, e4⟩ := left_down.2 d' hd
                  have up1 : ∀ {q : Addr} {o : HO}, ¬ fp q → H13 q = some o → H14 q = some o ∧ ¬ fp1 q := fun {q o} h e => ⟨ch.keep q o h e, fun f => by
                    rcases ch.new q f with g | g
                    · exact h g
                    · rw [e] at g; cases g⟩
                  obtain ⟨hR14, fR1⟩ := up1 fR.1 hR13
                  obtain ⟨hL14, fL1⟩ := up1 fL.1 hL13
                  refine ⟨_, rfl, rfl, _, rfl, ite2 (fun e => absurd (V.int.inj (of_decide_eq_true e)) ne0) (fun _ => ?_)⟩
                  refine ⟨_, rfl, rfl, _, rfl, iteF ?_⟩
                  refine ⟨fun σ' H' => σ' = [some (.ref a), some (.ref b), some (.int (n : Nat)), some (.ref p), some (.ref B), some (.ref W), some (.int (leftD d')), some (.ref R), some (.int (d.cuts : Nat)), some (.int (0 + (i : Nat))), some (.int r10), y11, some (.int at_), some (.ref L), some .non, y15, y16, y17] ∧ H' = H14, ?_, ?_⟩
                  · refine ⟨_, rfl, _, _, rfl, rfl, _, rfl, ite2 (fun e => ?_) (fun e => ?_)⟩
                    · rw [if_pos (of_decide_eq_true e)] at lf
                      rw [lf]
                      exact ⟨_, rfl, _, _, rfl, rfl, rfl, rfl⟩
                    · rw [if_neg (fun h => e (decide_eq_true h))] at lf
                      rw [lf]
                      exact ⟨rfl, rfl⟩
                  · rintro σ' H' ⟨rfl, e14⟩
                    obtain rfl := e14.symm
                    clear lf
                    refine ⟨_, rfl, _, _, rfl, rfl, rfl, _, rfl, ite2 (fun e => ?_) (fun e => ?_)⟩
                    · -- all that waits is written
                      obtain rfl : at_ = 0 - 1 := V.int.inj (of_decide_eq_true e)
                      rw [if_pos rfl] at dk
                      have lw14 := lw13.chd (d' := flushD d') ch dk (by show (storeD _ _).length = n; rw [storeD_len, e1]; exact lw13.len)
                      have est : (flushD d').st = putAll d.st d.wt := by
                        show storeD d'.st (d'.wt.zip (List.replicate d'.wt.length 32)) = _
                        rw [e1, e2]
                        exact store_all d.wt d.st _ (Nat.le_refl _) ok9.rows ok9.wait
                      refine ⟨.ref W, rfl, W, rfl, ⟨_, .inl (.inl lw14.own.hW)⟩, ?_⟩
                      refine for_list (K := K) (a := W) (xs := es.map V.ref) (fun j σ H3 => ∃ (y9 : Option V) (ow' : Addr → Prop) (bs' : List Addr), σ = [some (.ref a), some (.ref b), some (.int (n : Nat)), some (.ref p), some (.ref B), some (.ref W), some (.int (leftD d')), some (.ref R), some (.int (d.cuts : Nat)), some (.int (0 + (i : Nat))), some (.int r10), y11, some (.int (0 - 1)), some (.ref L), some .non, y15, y16, y9] ∧ LW K CDisk b p n H3 B W (flushD d') (putAll d.st (d.wt.take j)) d.wt dg fp1 ow' bs' es ∧ H3 R = some (.lst (vI d.torn)) ∧ ¬ ow' R)
                        ⟨y17, ow, bs, rfl, lw14, hR14, fR.2.2.2⟩ (fun j σ H3 _ ⟨_, _, _, _, x, _⟩ => .inl (.inl x.own.hW)) ?_ ?_
                      · rintro j v σ H3 hv ⟨y9, ow', bs', rfl, lw3, hR3, oR⟩
                        obtain ⟨ea, hea, rfl⟩ : ∃ a, es[j]? = some a ∧ v = V.ref a := by
                          rw [List.getElem?_map] at hv
                          cases e : es[j]? with
                          | none => rw [e] at hv; cases hv
                          | some a => rw [e] at hv; exact ⟨a, rfl, (Option.some.inj hv).symm⟩
                        obtain ⟨en, hen, c, h1, h2, oa, oc, aB, aW, cB, cW⟩ := pair_left lw3.own.wait hea
                        have nxt : d.wt.take (j + 1) = d.wt.take j ++ [en] := by
                          rw [List.take_add_one, hen]
                          rfl
                        have il := (ok9.wait en (List.mem_of_getElem? hen)).1
                        have bl : bs'.length = d.st.length := by rw [pair_len lw3.own.rows, putAll_len]
                        refine ⟨_, rfl, ea, _, _, _, rfl, rfl, .inl (.inl h1), rfl, _, rfl, _, rfl, ea, _, _, _, rfl, rfl, .inl (.inl h1), rfl, ?_⟩
                        refine ⟨B, _, _, en.1, rfl, rfl, lw3.own.hB, ixN_nat (by rw [List.length_map, bl]; exact il), ?_⟩
                        exact ⟨_, (fun q => ow' q ∨ q = c), bs'.set en.1 c, rfl, by rw [nxt, putAll_snoc]; exact lw3.setB h2 (lw3.off c oc) cB cW, by rw [upd_ne (fun h : R = B => oR (h ▸ lw3.own.has.1))]; exact hR3, fun (h : ow' R ∨ R = c) => h.elim oR fun e => oR (e ▸ oc)⟩
                      · rintro σ H3 ⟨y9, ow', bs', rfl, lw3, hR3, oR⟩
                        rw [List.length_map, pair_len lw3.own.wait, List.take_length, ← est] at lw3
                        refine ⟨Nat.zero_le _, fun W2 nW2 => ?_⟩
                        have ec : (d.cuts : Nat) = (flushD d').cuts := e3.symm
                        rw [ec]
                        exact ⟨W2, R, flushD d', _, _, _, _, _, _, _, rfl, ⟨dg, fp1, _, _, _, lw3.newW nW2, ⟨by rw [est]; exact byte_all _ _ byt.1 byt.2, by intro e h; cases h⟩, by rw [show (flushD d').torn = d.torn from e4]; exact same_new nW2 _ _ hR3, fR1, fR.2.1, fR.2.2.1, fun (h : ow' R ∨ R = W2) => h.elim oR (ne_of_none hR3 nW2)⟩, Nat.zero_le _⟩
                    · -- a write
                      have ne1 : at_ ≠ 0 - 1 := fun h => e (decide_eq_true (congrArg V.int h))
                      obtain ⟨k, rfl, kn⟩ := hat.resolve_left ne1
                      rw [if_neg ne1] at dk
                      have lw14 := lw13.chd (d' := putD d' k ns) ch dk (by show d'.st.length = n; rw [e1]; exact lw13.len)
                      refine ⟨.ref W, rfl, .inl ⟨rfl, _, .inl (.inl lw14.own.hW)⟩, _, rfl, _, rfl, by show 2 ≤ sizeLine; decide, fun t nt => ?_⟩
                      have ft := lw14.fresh nt
                      have st := same_new (o := .lst [V.int (k : Nat), .ref L]) nt
                      have lw15 := lw14.same st
                      have hR15 := st _ _ hR14
                      refine ⟨W, _, _, rfl, rfl, lw15.own.hW, by rw [lwt]; exact small5 (by omega), ?_⟩
                      have lw16 := lw15.app upd_same (st _ _ hL14) ft ⟨fL1, fL.2⟩
                      have RW : R ≠ W := fun h => fR.2.2.2 (h ▸ lw14.own.has.2)
                      have ew : (putD d' k ns).wt = d.wt ++ [(k, ns)] := by show d'.wt ++ _ = _; rw [e2]
                      have es' : (putD d' k ns).st = d.st := e1
                      rw [← ew, ← es'] at lw16
                      have ec : (d.cuts : Nat) = (putD d' k ns).cuts := e3.symm
                      rw [ec]
                      refine ⟨W, R, putD d' k ns, _, _, _, _, _, _, _, rfl, ⟨dg, fp1, _, _, _, lw16, ⟨by rw [es']; exact byt.1, fun e he => ?_⟩, by rw [upd_ne RW, show (putD d' k ns).torn = d.torn from e4]; exact hR15, fR1, fR.2.1, fR.2.2.1, fun h => ?_⟩, ?_⟩
                      · rw [ew] at he
                        rcases List.mem_append.mp he with h | h
                        · exact byt.2 e h
                        · rw [List.mem_singleton.mp h]; exact byN
                      · rcases h with (h | h) | h
                        · exact fR.2.2.2 h
                        · exact RL h
                        · rw [h, nt] at hR14; cases hR14
                      · rw [ew, List.length_append]
                        show d.wt.length + 1 ≤ i + 1
                        omega
                · have l0 := left_down.1 hd
                  have lw15 := ((lw13.chd (d' := cutD d d.torn) ch dk (by show (storeD _ _).length = n; rw [storeD_len]; exact lw13.len)).same s15)
                  have hR15 := s15 _ _ (ch.keep R _ fR.1 hR13)
                  have fR1 : ¬ fp1 R := fun f => by
                    rcases ch.new R f with g | g
                    · exact fR.1 g
                    · rw [hR13] at g; cases g
                  have est : (cutD d d.torn).st = storeD d.st (d.wt.zip d.torn) := store_more d.wt d.st d.torn
                  have lim := within_mem ok9.torn.1
                  have tfew := ok9.torn.2
                  refine ⟨_, rfl, rfl, _, rfl, ite2 (fun _ => ?_) (fun e => absurd (decide_eq_true (congrArg V.int l0)) e)⟩
                  refine ⟨_, rfl, ?_⟩
                  refine ref_ne ht (.inr (.inr (.inr (.inr rfl)))) fun H16 s16 => ⟨_, rfl, iteF ?_⟩
                  have lw15 := lw15.same s16
                  have hR15 := s16 _ _ hR15
                  clear lw13 hR13 hL13 hl13 ch dk s15 s16 ht
                  obtain ⟨M, hM, Mt, Mw, Me⟩ : ∃ M : Nat, (if ((es.map V.ref).length : Int) < ((vI d.torn).length : Int) then ((es.map V.ref).length : Int) else ((vI d.torn).length : Int)) = (M : Int) ∧ M ≤ d.torn.length ∧ M ≤ d.wt.length ∧ (M = d.torn.length ∨ M = d.wt.length) := by
                    rw [lwt, vI_len]
                    by_cases h : (d.wt.length : Int) < d.torn.length
                    · exact ⟨d.wt.length, if_pos h, by omega, by omega, .inr rfl⟩
                    · exact ⟨d.torn.length, if_neg h, by omega, by omega, .inl rfl⟩
                  refine ⟨_, rfl, R, _, rfl, .inl (.inl (.inl hR15)), _, rfl, W, _, rfl, .inl (.inl (.inl lw15.own.hW)), _, _, rfl, _, rfl, ?_⟩
                  rw [hM]
                  refine ⟨by omega, Int.lt_of_le_of_lt (b := 100) (by omega) (by decide), ?_⟩
                  refine for_range (lo := 0) (n := M) (fun j σ H3 => ∃ (y11' y12' : Option V) (ow' : Addr → Prop) (bs' : List Addr), σ = [some (.ref a), some (.ref b), some (.int (n : Nat)), some (.ref p), some (.ref B), some (.ref W), some (.int (leftD d)), some (.ref R), some (.int (d.cuts : Nat)), some (.int (0 + (i : Nat))), some (.int r10), y11, some (.int at_), some (.ref L), some (.ref t1), y11', y12', y17] ∧ LW K CDisk b p n H3 B W (cutD d d.torn) (storeD d.st ((d.wt.zip d.torn).take j)) d.wt dg fp1 ow' bs' es ∧ H3 R = some (.lst (vI d.torn)) ∧ ¬ ow' R)
                    ⟨y15, y16, ow, bs, rfl, lw15, hR15, fR.2.2.2⟩ ?_ ?_
                  · rintro j σ H3 hj ⟨y11', y12', ow', bs', rfl, lw3, hL3, oL⟩
                    have ej : (0 : Int) + (j : Nat) = (j : Nat) := Int.zero_add _
                    rw [ej]
                    obtain ⟨ea, hea, c, h1, h2, oa, oc, aB, aW, cB, cW⟩ := pair_at lw3.own.wait (List.getElem?_eq_getElem (show j < d.wt.length by omega))
                    have hts : d.torn[j]? = some d.torn[j] := List.getElem?_eq_getElem (show j < d.torn.length by omega)
                    obtain ⟨t0, t32⟩ := lim _ (List.getElem_mem (show j < d.torn.length by omega))
                    generalize d.torn[j] = tv at hts t0 t32
                    obtain ⟨il, l32⟩ := ok9.wait _ (List.getElem_mem (show j < d.wt.length by omega))
                    have hen : d.wt[j]? = some d.wt[j] := List.getElem?_eq_getElem (show j < d.wt.length by omega)
                    generalize d.wt[j] = en at hen h1 h2 il l32
                    have nxt : (d.wt.zip d.torn).take (j + 1) = (d.wt.zip d.torn).take j ++ [(en, tv)] := by
                      rw [List.take_add_one]
                      congr 1
                      rw [show (d.wt.zip d.torn)[j]? = some (en, tv) from List.getElem?_zip_eq_some.mpr ⟨hen, hts⟩]
                      rfl
                    have il3 : en.1 < (storeD d.st ((d.wt.zip d.torn).take j)).length := by rw [storeD_len]; exact il
                    obtain ⟨sa, hsa, hr1, osa, saB, saW⟩ := pair_at lw3.own.rows (List.getElem?_eq_getElem il3)
                    have eget : (storeD d.st ((d.wt.zip d.torn).take j)).getD en.1 [] = (storeD d.st ((d.wt.zip d.torn).take j))[en.1] := by
                      rw [List.getD_eq_getElem?_getD, List.getElem?_eq_getElem il3]
                      rfl
                    rw [← eget] at hr1
                    have rl32 : ((storeD d.st ((d.wt.zip d.torn).take j)).getD en.1 []).length ≤ 32 := by
                      rw [eget]
                      exact Nat.le_of_eq (store_rows _ _ ok9.rows (fun x hx => ok9.wait _ (List.of_mem_zip (List.mem_of_mem_take hx)).1) _ (List.getElem_mem il3))
                    have bl : bs'.length = d.st.length := by rw [pair_len lw3.own.rows, storeD_len]
                    generalize hst : storeD d.st ((d.wt.zip d.torn).take j) = st at lw3 hr1 rl32 nxt
                    have atW : atI (es.map V.ref) (j : Nat) = some (.ref ea) := atI_nat (by rw [List.getElem?_map, hea]; rfl)
                    have atL : atI (vI d.torn) (j : Nat) = some (.int tv) := atI_nat (by unfold vI; rw [List.getElem?_map, hts]; rfl)
                    have atB : atI (bs'.map V.ref) (en.1 : Nat) = some (.ref sa) := atI_nat (by rw [List.getElem?_map, hsa]; rfl)
                    refine ⟨_, rfl, _, rfl, W, _, _, .ref ea, rfl, rfl, .inl (.inl lw3.own.hW), atW, ea, _, _, _, rfl, rfl, .inl (.inl h1), rfl, ?_⟩
                    refine ⟨_, rfl, _, rfl, W, _, _, .ref ea, rfl, rfl, .inl (.inl lw3.own.hW), atW, ea, _, _, _, rfl, rfl, .inl (.inl h1), rfl, _, rfl, _, rfl, R, _, _, .int tv, rfl, rfl, .inl (.inl hL3), atL, tv, rfl, c, _, rfl, .inl (.inl h2), fun c1 n1 => ?_⟩
                    rw [cutV_toI _ t0]
                    have s1 := same_new (o := .lst ((vI en.2).take tv.toNat)) n1
                    have lw4 := lw3.same s1
                    refine ⟨_, rfl, _, rfl, B, _, _, .ref sa, rfl, rfl, .inl (.inl lw4.own.hB), atB, _, rfl, _, rfl, R, _, _, .int tv, rfl, rfl, .inl (.inl (s1 _ _ hL3)), atL, tv, rfl, sa, _, rfl, .inl (.inl (s1 _ _ hr1)), fun c2 n2 => ?_⟩
                    rw [cutV_fromI _ t0]
                    have s2 := same_new (o := .lst ((vI (st.getD en.1 [])).drop tv.toNat)) n2
                    have lw5 := lw4.same s2
                    have lenA : ((vI en.2).take tv.toNat).length + ((vI (st.getD en.1 [])).drop tv.toNat).length ≤ 64 := by
                      unfold vI
                      rw [List.length_take, List.length_drop, List.length_map, List.length_map]
                      omega
                    refine ⟨c1, c2, _, _, rfl, rfl, s2 _ _ upd_same, upd_same, Nat.le_trans lenA (by decide), fun c3 n3 => ?_⟩
                    have eR : (vI en.2).take tv.toNat ++ (vI (st.getD en.1 [])).drop tv.toNat = vI (en.2.take tv.toNat ++ (st.getD en.1 []).drop tv.toNat) := by
                      unfold vI
                      rw [List.map_append, List.map_take, List.map_drop]
                    rw [eR]
                    have s3 := same_new (o := .lst (vI (en.2.take tv.toNat ++ (st.getD en.1 []).drop tv.toNat))) n3
                    have lw6 := lw5.same s3
                    have f3 := lw5.fresh n3
                    have hL6 := s3 _ _ (s2 _ _ (s1 _ _ hL3))
                    have Lc3 : R ≠ c3 := ne_of_none (s2 _ _ (s1 _ _ hL3)) n3
                    refine ⟨_, rfl, _, rfl, B, _, _, en.1, rfl, rfl, lw6.own.hB, ixN_nat (by rw [List.length_map, bl]; exact il), ?_⟩
                    refine ⟨_, _, (fun q => ow' q ∨ q = c3), bs'.set en.1 c3, rfl, ?_, by rw [upd_ne (fun h : R = B => oL (h ▸ lw3.own.has.1))]; exact hL6, fun (h : ow' R ∨ R = c3) => h.elim oL Lc3⟩
                    rw [nxt, storeD_snoc, hst]
                    exact lw6.setB upd_same ⟨f3.1, f3.2.1, f3.2.2.1⟩ (fun h => f3.2.2.2 (h ▸ lw5.own.has.1)) (fun h => f3.2.2.2 (h ▸ lw5.own.has.2))
                  · rintro σ H3 ⟨y11', y12', ow', bs', rfl, lw3, hL3, oL⟩
                    have tk : (d.wt.zip d.torn).take M = d.wt.zip d.torn := List.take_of_length_le (by rw [List.length_zip]; omega)
                    rw [tk, ← est] at lw3
                    refine ⟨Nat.zero_le _, fun W2 nW2 => ?_⟩
                    exact ⟨_, _, rfl, rfl, _, rfl, _, _, rfl, rfl, W2, R, cutD d d.torn, _, _, _, _, _, _, _, rfl, ⟨dg, fp1, _, _, _, lw3.newW nW2, ⟨by rw [est]; exact byte_store _ _ byt.1 fun e he => byt.2 _ (List.of_mem_zip he).1, by intro e h; cases h⟩, same_new nW2 _ _ hL3, fR1, fR.2.1, fR.2.2.1, fun (h : ow' R ∨ R = W2) => h.elim oL (ne_of_none hL3 nW2)⟩, Nat.zero_le _⟩
      · clear lw byt hR fR wi d9
        rintro σ' H10 ⟨W, R, d, z11, z12, z13, z14, z15, z16, z17, rfl, ⟨dg, fp, ow, bs, es, lw, byt, hR, fR⟩, wi⟩
        obtain ⟨dx, S, W0, T0, ss0, ws0, x3⟩ := lw.disk
        have lwt : (es.map V.ref).length = d.wt.length := by rw [List.length_map, pair_len lw.own.wait]
        refine ⟨_, rfl, p, dx, _, rfl, x3.hp, rfl, p, fp, d, rfl, lw.disk, .ref W, rfl, W, _, rfl, .inl (.inl (.inl lw.own.hW)), rfl, _, rfl, ite2 (fun e => absurd e (by rw [lwt]; simp)) (fun _ => ?_)⟩
        refine ⟨_, rfl, p, dx, _, rfl, x3.hp, rfl, p, fp, d, rfl, lw.disk, _, rfl, rfl, _, rfl, ite2 (fun e => absurd e (by simp)) (fun _ => ?_)⟩
        exact ⟨W, R, d, _, _, _, _, _, _, _, _, _, rfl, ⟨dg, fp, ow, bs, es, lw, byt, hR, fR⟩, wi⟩
    · rintro σ H8 ⟨W, R, d, y9, y10, y11, y12, y13, y14, y15, y16, y17, rfl, ⟨dg, fp, ow, bs, es, lw, byt, hR, fR⟩, wi⟩
      obtain ⟨dx, S, W0, T0, ss0, ws0, x8⟩ := lw.disk
      have ok8 := x8.ok
      refine ⟨_, rfl, p, dx, _, rfl, x8.hp, rfl, Nat.zero_le _, fun z0 nz => ?_⟩
      have sz := same_new (o := .lst []) nz
      refine ⟨p, z0, fp, d, [], rfl, (lw.same sz).disk, upd_same, by decide, fun _ H11 fp1 ch1 dk1 => ?_, fun h => absurd h (by decide)⟩
      have lw11 := (lw.same sz).chd (d' := cutD d []) ch1 dk1 (by show (storeD _ _).length = n; rw [storeD_len]; exact lw.len)
      have est : (cutD d []).st = d.st := by
        show storeD d.st (d.wt.zip ([] ++ List.replicate (d.wt.length - 0) 0)) = d.st
        rw [List.nil_append]
        exact store_zero _ _ _
      refine ⟨_, rfl, (n : Nat), rfl, by omega, Int.lt_of_le_of_lt (b := 400) (by omega) (by decide), fun D nD => ?_⟩
      have fD := lw11.fresh nD
      refine lc_range (lo := 0) (n := n) (fun j H' => ∃ ls : List Addr, LW K CDisk b p n H' B W (cutD d []) d.st d.wt dg fp1 ow bs es ∧ H' D = some (.lst (ls.map V.ref)) ∧ Paired (fun (q : Addr) (r : List Int) => H' q = some (.lst (vI r)) ∧ q ≠ D) ls (d.st.take j))
        ⟨[], lw11.same (same_new nD), upd_same, .nil⟩ ?_ ?_
      · rintro j H12 hj ⟨ls, lw12, hD, prd⟩
        have ej : (0 : Int) + (j : Nat) = (j : Nat) := Int.zero_add _
        rw [ej]
        obtain ⟨dx2, S2, W2, T2, ss2, ws2, x12⟩ := lw12.disk
        have jl : j < d.st.length := by rw [← lw.len] at hj; exact hj
        refine ⟨rfl, yes (iteT ⟨_, rfl, p, dx2, _, rfl, x12.hp, rfl, _, rfl, p, fp1, cutD d [], (j : Nat), rfl, lw12.disk, fun _ H13 l s13 nl hl => ?_, fun h => absurd h (by rw [show atB (cutD d []) (j : Nat) = true from decide_eq_true (by rw [est]; omega)]; decide)⟩)⟩
        have rd : readD (cutD d []) j = d.st[j] := by
          show (cutD d []).st.getD j [] = _
          rw [est, List.getD_eq_getElem?_getD, List.getElem?_eq_getElem jl]
          rfl
        have hl : H13 l = some (.lst (vI (readD (cutD d []) j))) := hl
        rw [rd] at hl
        have lD : l ≠ D := fun h => by rw [h, hD] at nl; cases nl
        refine ⟨_, s13 _ _ hD, by rw [List.length_map, pair_len prd, List.length_take]; exact small5 (by omega), ls ++ [l], (lw12.same s13).elsewhere fD, ?_, ?_⟩
        · rw [upd_same, List.map_append]
          rfl
        · rw [List.take_add_one, List.getElem?_eq_getElem jl]
          exact pair_app (Paired.mapP prd fun q r ⟨h1, h2⟩ => ⟨by rw [upd_ne h2]; exact s13 _ _ h1, h2⟩) (.cons ⟨by rw [upd_ne lD]; exact hl, lD⟩ .nil)
      · rintro H12 ⟨ls, lw12, hD, prd⟩
        rw [← lw.len, List.take_length] at prd
        obtain ⟨sh, ev⟩ := rows_told byt.1 (fun r hr => Nat.le_of_eq (ok8.rows r hr)) (by rw [lw.len]; omega)
        refine ⟨_, rfl, _, _, .lst (.inl (.inl hD)) (dp_rows (Paired.mapP prd fun q r ⟨h1, _⟩ => h1)), .lst (.inl (.inl lw12.own.hB)) (dp_rows (Paired.mapP lw12.own.rows fun q r ⟨h1, _⟩ => h1)), sh, sh, ?_⟩
        rw [ev]
        exact q H12
end
end K42

namespace K42
open PySem PySem.Spec PyProof.Rows L2 Pg
/-! what the top has written -/
theorem all_mk {l : PySem.W.OpenLaw} {w : World} {K : PySem.W.Frag} {h : Heap} {mg : Str → Option Value} {fa f0 f1 f2 f3 f4 f5 f6 f7 f8 f9 f10 f11 f12 f13 f14 f15 f16 f17 f18 f19 f20 f21 CDisk : Addr} (X : K.In h) (G : h.Ns mainGlobals mg) (hfa : mg "law" = some (.ref fa))
    {od0 an0 od1 an1 od2 an2 od3 an3 od4 an4 od5 an5 od6 an6 od7 an7 od8 an8 od9 an9 od10 an10 od11 an11 od12 an12 od13 an13 od14 an14 od15 an15 od16 an16 od17 an17 od18 an18 od19 an19 od20 an20 od21 an21 : Option Addr} {sl0 sl1 sl2 sl3 sl4 sl5 sl6 sl7 sl8 sl9 sl10 sl11 sl12 sl13 sl14 sl15 sl16 sl17 sl18 sl19 sl20 sl21 : Array (Option Value)} {oc0 kV0 dc0 pm0 cd0 ct0 oc1 kV1 dc1 pm1 cd1 ct1 oc2 kV2 dc2 pm2 cd2 ct2 oc3 kV3 dc3 pm3 cd3 ct3 oc4 kV4 dc4 pm4 cd4 ct4 oc5 kV5 dc5 pm5 cd5 ct5 oc6 kV6 dc6 pm6 cd6 ct6 oc7 kV7 dc7 pm7 cd7 ct7 oc8 kV8 dc8 pm8 cd8 ct8 oc9 kV9 dc9 pm9 cd9 ct9 oc10 kV10 dc10 pm10 cd10 ct10 oc11 kV11 dc11 pm11 cd11 ct11 oc12 kV12 dc12 pm12 cd12 ct12 oc13 kV13 dc13 pm13 cd13 ct13 oc14 kV14 dc14 pm14 cd14 ct14 oc15 kV15 dc15 pm15 cd15 ct15 oc16 kV16 dc16 pm16 cd16 ct16 oc17 kV17 dc17 pm17 cd17 ct17 oc18 kV18 dc18 pm18 cd18 ct18 oc19 kV19 dc19 pm19 cd19 ct19 oc20 kV20 dc20 pm20 cd20 ct20 oc21 kV21 dc21 pm21 cd21 ct21 : Value} {t0 t1 t2 t3 t4 : Tok}
    {oC oI oN occ ocda : Addr} {onm oq ofile : Str} {obs obm osub : List Value} {osn : List Str} {oab : Bool} {ocol : Option Bool} {odd : Option Addr} {om0 om1 om2 om3 om5 : Option Value} {ooc oodoc oopm oct occl ocl : Value} {ood ooan occd ocld : Option Addr} {oosl occs ocsl : Array (Option Value)} {ovs : Array Value} {otf : Tok} {op1 op2 oq0 oq1 oq2 oq3 or1 or2 or3 or4 or5 ou1 ou2 ou3 ou4 : Pos} {pwC : Addr} {pgC : Addr}
    (a0 : PySem.W.nsIn K mainGlobals "_are_within" = some (some (.ref f0))) (l0 : K.lookup f0 = some ⟨oc0, od0, .func (PySem.W.fnOf "_are_within" "_are_within" (defArgs s_are_within) (defBody s_are_within) (defScope s_are_within) .none kV0 dc0 pm0 an0 cd0 ct0), sl0⟩)
      (c0 : PySem.W.codeIn K cd0 "_are_within" = true) (k0 : PySem.W.keepIn K (.ref f0) = true)
    (a1 : PySem.W.nsIn K mainGlobals "_check_torn" = some (some (.ref f1))) (l1 : K.lookup f1 = some ⟨oc1, od1, .func (PySem.W.fnOf "_check_torn" "_check_torn" (defArgs s_check_torn) (defBody s_check_torn) (defScope s_check_torn) .none kV1 dc1 pm1 an1 cd1 ct1), sl1⟩)
      (c1 : PySem.W.codeIn K cd1 "_check_torn" = true) (k1 : PySem.W.keepIn K (.ref f1) = true)
    (a2 : PySem.W.findIn K (.ref CDisk) "__init__" = some (some (.ref f2))) (i2 : PySem.W.isFn K (.ref f2) = true) (l2 : K.lookup f2 = some ⟨oc2, od2, .func (PySem.W.fnOf "__init__" "Disk.__init__" (defArgs s_Disk_init) (defBody s_Disk_init) (defScope s_Disk_init) .none kV2 dc2 pm2 an2 cd2 ct2), sl2⟩)
      (c2 : PySem.W.codeIn K cd2 "Disk.__init__" = true) (k2 : PySem.W.keepIn K (.ref f2) = true)
    (a3 : PySem.W.findIn K (.ref CDisk) "size" = some (some (.ref f3))) (i3 : PySem.W.isFn K (.ref f3) = true) (l3 : K.lookup f3 = some ⟨oc3, od3, .func (PySem.W.fnOf "size" "Disk.size" (defArgs s_Disk_size) (defBody s_Disk_size) (defScope s_Disk_size) .none kV3 dc3 pm3 an3 cd3 ct3), sl3⟩)
      (c3 : PySem.W.codeIn K cd3 "Disk.size" = true) (k3 : PySem.W.keepIn K (.ref f3) = true)
    (a4 : PySem.W.findIn K (.ref CDisk) "_check_at" = some (some (.ref f4))) (i4 : PySem.W.isFn K (.ref f4) = true) (l4 : K.lookup f4 = some ⟨oc4, od4, .func (PySem.W.fnOf "_check_at" "Disk._check_at" (defArgs s_Disk_check_at) (defBody s_Disk_check_at) (defScope s_Disk_check_at) .none kV4 dc4 pm4 an4 cd4 ct4), sl4⟩)
      (c4 : PySem.W.codeIn K cd4 "Disk._check_at" = true) (k4 : PySem.W.keepIn K (.ref f4) = true)
    (a5 : PySem.W.findIn K (.ref CDisk) "_store" = some (some (.ref f5))) (i5 : PySem.W.isFn K (.ref f5) = true) (l5 : K.lookup f5 = some ⟨oc5, od5, .func (PySem.W.fnOf "_store" "Disk._store" (defArgs s_Disk_store) (defBody s_Disk_store) (defScope s_Disk_store) .none kV5 dc5 pm5 an5 cd5 ct5), sl5⟩)
      (c5 : PySem.W.codeIn K cd5 "Disk._store" = true) (k5 : PySem.W.keepIn K (.ref f5) = true)
    (a6 : PySem.W.findIn K (.ref CDisk) "cut_power" = some (some (.ref f6))) (i6 : PySem.W.isFn K (.ref f6) = true) (l6 : K.lookup f6 = some ⟨oc6, od6, .func (PySem.W.fnOf "cut_power" "Disk.cut_power" (defArgs s_Disk_cut_power) (defBody s_Disk_cut_power) (defScope s_Disk_cut_power) .none kV6 dc6 pm6 an6 cd6 ct6), sl6⟩)
      (c6 : PySem.W.codeIn K cd6 "Disk.cut_power" = true) (k6 : PySem.W.keepIn K (.ref f6) = true)
    (a7 : PySem.W.findIn K (.ref CDisk) "_count_down" = some (some (.ref f7))) (i7 : PySem.W.isFn K (.ref f7) = true) (l7 : K.lookup f7 = some ⟨oc7, od7, .func (PySem.W.fnOf "_count_down" "Disk._count_down" (defArgs s_Disk_count_down) (defBody s_Disk_count_down) (defScope s_Disk_count_down) .none kV7 dc7 pm7 an7 cd7 ct7), sl7⟩)
      (c7 : PySem.W.codeIn K cd7 "Disk._count_down" = true) (k7 : PySem.W.keepIn K (.ref f7) = true)
    (a8 : PySem.W.findIn K (.ref CDisk) "read" = some (some (.ref f8))) (i8 : PySem.W.isFn K (.ref f8) = true) (l8 : K.lookup f8 = some ⟨oc8, od8, .func (PySem.W.fnOf "read" "Disk.read" (defArgs s_Disk_read) (defBody s_Disk_read) (defScope s_Disk_read) .none kV8 dc8 pm8 an8 cd8 ct8), sl8⟩)
      (c8 : PySem.W.codeIn K cd8 "Disk.read" = true) (k8 : PySem.W.keepIn K (.ref f8) = true)
    (a9 : PySem.W.findIn K (.ref CDisk) "write" = some (some (.ref f9))) (i9 : PySem.W.isFn K (.ref f9) = true) (l9 : K.lookup f9 = some ⟨oc9, od9, .func (PySem.W.fnOf "write" "Disk.write" (defArgs s_Disk_write) (defBody s_Disk_write) (defScope s_Disk_write) .none kV9 dc9 pm9 an9 cd9 ct9), sl9⟩)
      (c9 : PySem.W.codeIn K cd9 "Disk.write" = true) (k9 : PySem.W.keepIn K (.ref f9) = true)
    (a10 : PySem.W.findIn K (.ref CDisk) "flush" = some (some (.ref f10))) (i10 : PySem.W.isFn K (.ref f10) = true) (l10 : K.lookup f10 = some ⟨oc10, od10, .func (PySem.W.fnOf "flush" "Disk.flush" (defArgs s_Disk_flush) (defBody s_Disk_flush) (defScope s_Disk_flush) .none kV10 dc10 pm10 an10 cd10 ct10), sl10⟩)
      (c10 : PySem.W.codeIn K cd10 "Disk.flush" = true) (k10 : PySem.W.keepIn K (.ref f10) = true)
    (a11 : PySem.W.findIn K (.ref CDisk) "pending_count" = some (some (.ref f11))) (i11 : PySem.W.isFn K (.ref f11) = true) (l11 : K.lookup f11 = some ⟨oc11, od11, .func (PySem.W.fnOf "pending_count" "Disk.pending_count" (defArgs s_Disk_pending_count) (defBody s_Disk_pending_count) (defScope s_Disk_pending_count) .none kV11 dc11 pm11 an11 cd11 ct11), sl11⟩)
      (c11 : PySem.W.codeIn K cd11 "Disk.pending_count" = true) (k11 : PySem.W.keepIn K (.ref f11) = true)
    (a12 : PySem.W.findIn K (.ref CDisk) "cut_count" = some (some (.ref f12))) (i12 : PySem.W.isFn K (.ref f12) = true) (l12 : K.lookup f12 = some ⟨oc12, od12, .func (PySem.W.fnOf "cut_count" "Disk.cut_count" (defArgs s_Disk_cut_count) (defBody s_Disk_cut_count) (defScope s_Disk_cut_count) .none kV12 dc12 pm12 an12 cd12 ct12), sl12⟩)
      (c12 : PySem.W.codeIn K cd12 "Disk.cut_count" = true) (k12 : PySem.W.keepIn K (.ref f12) = true)
    (a13 : PySem.W.findIn K (.ref CDisk) "schedule_cut" = some (some (.ref f13))) (i13 : PySem.W.isFn K (.ref f13) = true) (l13 : K.lookup f13 = some ⟨oc13, od13, .func (PySem.W.fnOf "schedule_cut" "Disk.schedule_cut" (defArgs s_Disk_schedule_cut) (defBody s_Disk_schedule_cut) (defScope s_Disk_schedule_cut) .none kV13 dc13 pm13 an13 cd13 ct13), sl13⟩)
      (c13 : PySem.W.codeIn K cd13 "Disk.schedule_cut" = true) (k13 : PySem.W.keepIn K (.ref f13) = true)
    (a14 : PySem.W.nsIn K mainGlobals "_law_cell" = some (some (.ref f14))) (l14 : K.lookup f14 = some ⟨oc14, od14, .func (PySem.W.fnOf "_law_cell" "_law_cell" (defArgs s_law_cell) (defBody s_law_cell) (defScope s_law_cell) .none kV14 dc14 pm14 an14 cd14 ct14), sl14⟩)
      (c14 : PySem.W.codeIn K cd14 "_law_cell" = true) (k14 : PySem.W.keepIn K (.ref f14) = true)
    (a15 : PySem.W.nsIn K mainGlobals "_law_digits" = some (some (.ref f15))) (l15 : K.lookup f15 = some ⟨oc15, od15, .func (PySem.W.fnOf "_law_digits" "_law_digits" (defArgs s_law_digits) (defBody s_law_digits) (defScope s_law_digits) .none kV15 dc15 pm15 an15 cd15 ct15), sl15⟩)
      (c15 : PySem.W.codeIn K cd15 "_law_digits" = true) (k15 : PySem.W.keepIn K (.ref f15) = true)
    (a16 : PySem.W.nsIn K mainGlobals "_law_draw" = some (some (.ref f16))) (l16 : K.lookup f16 = some ⟨oc16, od16, .func (PySem.W.fnOf "_law_draw" "_law_draw" (defArgs s_law_draw) (defBody s_law_draw) (defScope s_law_draw) .none kV16 dc16 pm16 an16 cd16 ct16), sl16⟩)
      (c16 : PySem.W.codeIn K cd16 "_law_draw" = true) (k16 : PySem.W.keepIn K (.ref f16) = true)
    (a17 : PySem.W.nsIn K mainGlobals "_law_torn" = some (some (.ref f17))) (l17 : K.lookup f17 = some ⟨oc17, od17, .func (PySem.W.fnOf "_law_torn" "_law_torn" (defArgs s_law_torn) (defBody s_law_torn) (defScope s_law_torn) .none kV17 dc17 pm17 an17 cd17 ct17), sl17⟩)
      (c17 : PySem.W.codeIn K cd17 "_law_torn" = true) (k17 : PySem.W.keepIn K (.ref f17) = true)
    (a18 : PySem.W.nsIn K mainGlobals "_law_schedule" = some (some (.ref f18))) (l18 : K.lookup f18 = some ⟨oc18, od18, .func (PySem.W.fnOf "_law_schedule" "_law_schedule" (defArgs s_law_schedule) (defBody s_law_schedule) (defScope s_law_schedule) .none kV18 dc18 pm18 an18 cd18 ct18), sl18⟩)
      (c18 : PySem.W.codeIn K cd18 "_law_schedule" = true) (k18 : PySem.W.keepIn K (.ref f18) = true)
    (a19 : PySem.W.nsIn K mainGlobals "_law_do_raw" = some (some (.ref f19))) (l19 : K.lookup f19 = some ⟨oc19, od19, .func (PySem.W.fnOf "_law_do_raw" "_law_do_raw" (defArgs s_law_do_raw) (defBody s_law_do_raw) (defScope s_law_do_raw) .none kV19 dc19 pm19 an19 cd19 ct19), sl19⟩)
      (c19 : PySem.W.codeIn K cd19 "_law_do_raw" = true) (k19 : PySem.W.keepIn K (.ref f19) = true)
    (a20 : PySem.W.nsIn K mainGlobals "_law_do" = some (some (.ref f20))) (l20 : K.lookup f20 = some ⟨oc20, od20, .func (PySem.W.fnOf "_law_do" "_law_do" (defArgs s_law_do) (defBody s_law_do) (defScope s_law_do) .none kV20 dc20 pm20 an20 cd20 ct20), sl20⟩)
      (c20 : PySem.W.codeIn K cd20 "_law_do" = true) (k20 : PySem.W.keepIn K (.ref f20) = true)
    (a21 : PySem.W.nsIn K mainGlobals "law" = some (some (.ref f21))) (l21 : K.lookup f21 = some ⟨oc21, od21, .func (PySem.W.fnOf "law" "law" (defArgs s_law) (defBody s_law) (defScope s_law) .none kV21 dc21 pm21 an21 cd21 ct21), sl21⟩)
      (c21 : PySem.W.codeIn K cd21 "law" = true) (k21 : PySem.W.keepIn K (.ref f21) = true)
    (qDisk0 : PySem.W.nsIn K mainGlobals "Disk" = some (some (.ref CDisk))) (qDisk1 : PySem.W.plainGet K CDisk Str.empty = true) (qDisk2 : PySem.W.hasDictIn K CDisk = true) (qDisk3 : PySem.W.plainOver K CDisk = true) (qDisk4 : PySem.W.findIn K (.ref CDisk) "__setattr__" = some (some (.builtin "object.__setattr__"))) (qDisk5 : PySem.W.makesIn K CDisk = true) (qDisk6 : PySem.W.keepIn K (.ref CDisk) = true)
    (pDisk0 : PySem.W.findIn K (.ref CDisk) "_stored" = some none)
    (pDisk1 : PySem.W.findIn K (.ref CDisk) "_waiting" = some none)
    (pDisk2 : PySem.W.findIn K (.ref CDisk) "_cuts" = some none)
    (pDisk3 : PySem.W.findIn K (.ref CDisk) "_ahead" = some none)
    (pDisk4 : PySem.W.findIn K (.ref CDisk) "_torn" = some none)
    (z0 : PySem.W.nsIn K mainGlobals "len" = some none)
    (z1 : PySem.W.nsIn K mainGlobals "range" = some none)
    (z2 : PySem.W.nsIn K mainGlobals "int" = some none)
    (z3 : PySem.W.nsIn K mainGlobals "list" = some none)
    (z4 : PySem.W.nsIn K mainGlobals "all" = some none)
    (z5 : PySem.W.nsIn K mainGlobals "zip" = some none)
    (z6 : PySem.W.nsIn K mainGlobals "reversed" = some none)
    (z7 : PySem.W.nsIn K mainGlobals "min" = some none)
    (z8 : PySem.W.nsIn K mainGlobals "max" = some none)
    (z9 : PySem.W.nsIn K mainGlobals "isinstance" = some none)
    (n0 : PySem.W.nsIn K mainGlobals "BLOCK" = some (some (.int 32 t0)))
    (n1 : PySem.W.nsIn K mainGlobals "BLOCKS_MOST" = some (some (.int 400 t1)))
    (n2 : PySem.W.nsIn K mainGlobals "_BLOCKS_LEAST" = some (some (.int 8 t2)))
    (n3 : PySem.W.nsIn K mainGlobals "_BYTE_MOST" = some (some (.int 255 t3)))
    (n4 : PySem.W.nsIn K mainGlobals "_SCHEDULE_MOST" = some (some (.int 100000 t4)))
    (xo0 : PySem.W.nsIn K mainGlobals "OutOfRange" = some (some (.ref oC)))
    (xo1 : PySem.W.nsIn K mainGlobals "super" = some none)
    (xo2 : K.lookup oC = some (excClassObj onm oq oC oN obs obm true osn osub oab ocol odd om0 om1 om2 om3 om5 "ValueError.__new__"))
    (xo3 : PySem.HandSPX.refsVE obm = true)
    (xo4 : PySem.W.findIn K (.ref oC) "__setattr__" = some (some (.builtin "object.__setattr__")))
    (xo5 : PySem.W.findIn K (.ref oC) "__getattribute__" = some (some (.builtin "BaseException.__getattribute__")))
    (xo6 : PySem.W.findIn K (.ref oC) "__getattr__" = some none)
    (xo7 : PySem.W.findIn K (.ref oC) "name" = some none)
    (xo8 : PySem.W.findIn K (.ref oC) "__init__" = some (some (.ref oI)))
    (xo9 : PySem.W.typeIn K (.ref oI) = some (.type "function"))
    (xoa : PySem.W.keepIn K (.ref oC) = true)
    (xob : PySem.W.subIn K (.ref oC) (.type "BaseException") = some true)
    (xoc : PySem.W.subIn K (.ref oC) (.type "ValueError") = some true)
    (xod : PySem.W.typeIn K (.ref oC) = some (.type "type"))
    (xoe : PySem.W.hasDictIn K oC = true)
    (xof : PySem.W.isClsIn K oC = true)
    (xog : PySem.W.subIn K (.ref oC) (.ref oC) = some true)
    (xoh : PySem.W.nsIn K cStatics "thirdparty.any" = some none)
    (xoi : PySem.W.ks_superIn K oC oC "__init__" = some (some (.builtin "ValueError.__init__")))
    (xoj : PySem.W.mroIn K oC (.ref oC) = some true)
    (xok : (l.prog.main.scope.names.lookup ("super" : Str)).isSome = false)
    (xol : K.lookup oI = some ⟨ooc, ood, .func (PySem.W.ksFn "__init__" "OutOfRange.__init__" (PySem.OorX.iA op1 op2) [PySem.OorX.s1 (PySem.OorX.jS oq0 oq1 oq2 oq3) or1 or2 or3 or4 or5, PySem.OorX.s2 ou1 ou2 ou3 ou4] PySem.OorX.iS .none .none oodoc oopm ooan (.ref ocda) oct occ), oosl⟩)
    (xom : PySem.W.codeIn K (.ref ocda) "OutOfRange.__init__" = true)
    (xon : K.lookup ocda = some ⟨occl, occd, .fields ovs, occs⟩)
    (xoo : ovs[2]? = some (.str ofile otf))
    (xop : ((l.prog.main.file : Str) == ofile) = true)
    (xoq : (or3.endLine == or4.line) = true)
    (xor' : K.lookup occ = some ⟨ocl, ocld, .cell (some (.ref oC)), ocsl⟩)
    (xpc0 : PySem.W.nsIn K mainGlobals "PowerCut" = some (some (.ref pwC)))
    (xpc1 : PySem.W.excIn K pwC [.type "ValueError", .type "Exception", .type "BaseException", .type "object"] "ValueError.__new__" = true)
    (xpc2 : PySem.W.keepIn K (.ref pwC) = true)
    (xpc3 : PySem.W.subIn K (.ref pwC) (.type "BaseException") = some true)
    (xpc4 : PySem.W.typeIn K (.ref pwC) = some (.type "type"))
    (xpg0 : PySem.W.nsIn K mainGlobals "PageError" = some (some (.ref pgC)))
    (xpg1 : PySem.W.excIn K pgC [.type "ValueError", .type "Exception", .type "BaseException", .type "object"] "ValueError.__new__" = true)
    (xpg2 : PySem.W.keepIn K (.ref pgC) = true)
    (xpg3 : PySem.W.subIn K (.ref pgC) (.type "BaseException") = some true)
    (xpg4 : PySem.W.typeIn K (.ref pgC) = some (.type "type"))
    (u1 : PySem.W.subIn K (.ref pwC) (.ref pwC) = some true)
    (u2 : PySem.W.subIn K (.ref oC) (.ref pwC) = some false)
    (u3 : PySem.W.subIn K (.ref pwC) (.ref pgC) = some true)
    (u4 : PySem.W.subIn K (.ref pwC) (.ref oC) = some false)
    (u5 : PySem.W.hasDictIn K pgC = true)
    (u6 : PySem.W.hasDictIn K oC = true)
    (u7 : PySem.W.typeIn K (.ref oC) = some (.type "type"))
    (y5 : PySem.W.findIn K (.ref pwC) "__getattribute__" = some (some (.builtin "BaseException.__getattribute__")))
    (y6 : PySem.W.findIn K (.ref pwC) "__getattr__" = some none)
    (y7 : PySem.W.hasDictIn K pwC = true)
    (y8 : PySem.W.findIn K (.ref pwC) "__class__" = some (some (.builtin "object.__class__")))
    (y9 : PySem.W.specialIn K (.builtin "object.__class__") "__get__" = some (some (.builtin "getset_descriptor.__get__")))
    (ya : PySem.W.takesIn K (.builtin "object.__class__") = some true)
    (yb : PySem.W.mroIn K pwC (.type "object") = some true) :
    ∃ fd : FuncData, (∀ (s : Shared) (v : Value), BindsTo s fd ⟨[v], []⟩ [("script", v)]) ∧ ∀ base : Heap, K.In base → base.Ns mainGlobals mg → FnG l.prog w K mg base 12 fa fd ["script"] (spLaw K) := by
  obtain rfl : fa = f21 := by
    have e := hfa.symm.trans (PySem.W.mg_of X G a21)
    cases e
    rfl
  have z : Z mg := ⟨PySem.W.mg_none_of X G z0, PySem.W.mg_none_of X G z1, PySem.W.mg_none_of X G z2, PySem.W.mg_none_of X G z3, PySem.W.mg_none_of X G z4, PySem.W.mg_none_of X G z5, PySem.W.mg_none_of X G z6, PySem.W.mg_none_of X G z7, PySem.W.mg_none_of X G z8, PySem.W.mg_none_of X G z9, ⟨_, PySem.W.mg_of X G n0⟩, ⟨_, PySem.W.mg_of X G n1⟩, ⟨_, PySem.W.mg_of X G n2⟩, ⟨_, PySem.W.mg_of X G n3⟩, ⟨_, PySem.W.mg_of X G n4⟩⟩
  have oor : PySem.OorX.OorTxt l.prog K mg oC oI := { gC := PySem.W.mg_of X G xo0, gS := PySem.W.mg_none_of X G xo1, cls := ⟨_, _, _, _, _, _, _, _, _, _, _, _, _, _, _, xo2, xo3⟩, sa := xo4, ga := xo5, gg := xo6, noN := xo7, iC := xo8, tC := xo9, kC := xoa, exC := xob, veC := xoc, tyC := xod, hdC := xoe, te := Pg.exm_self xob xof xod xog, opq := xoh, sup := xoi, own := xoj, top := xok, fn := ⟨_, _, _, _, _, _, _, _, _, _, _, _, _, _, _, _, _, _, _, _, _, _, _, _, xol, xom, ⟨_, _, _, _, _, _, xon, xoo, xop⟩, xoq, _, _, _, xor'⟩ }
  have pc : Pg.ErrTxt K mg "PowerCut" pwC := ⟨PySem.W.mg_of X G xpc0, xpc1, xpc2, xpc3, xpc4⟩
  have pg : Pg.ErrTxt K mg "PageError" pgC := ⟨PySem.W.mg_of X G xpg0, xpg1, xpg2, xpg3, xpg4⟩
  have pcX : ExcC K pwC := ⟨y5, y6, xpc3, y7, y8, y9, ya, yb⟩
  have y1 := PySem.W.exm_ref xpc3 y7 xpc4 u1
  have y2 := PySem.W.exm_ref xpc3 y7 xpc4 u2
  have y3 := kit_true u5 xpg4 u3
  have y4 := kit_false u6 u7 u4 u1
  have tDisk : T_Disk K mg CDisk := ⟨⟨qDisk1, qDisk2, qDisk3, qDisk4⟩, PySem.W.mg_of X G qDisk0, pDisk0, pDisk1, pDisk2, pDisk3, pDisk4⟩
  have F0 := fun_mk (st := s_are_within) l0 c0 k0
  have b0 := F0.binds (ps := ["numbers", "most"]) fun _ _ _ _ _ _ us hl => match us, hl with | [_, _], _ => rfl
  have F1 := fun_mk (st := s_check_torn) l1 c1 k1
  have b1 := F1.binds (ps := ["torn"]) fun _ _ _ _ _ _ us hl => match us, hl with | [_], _ => rfl
  have F2 := fun_mk (st := s_Disk_init) l2 c2 k2
  have b2 := F2.binds (ps := ["self", "blocks"]) fun _ _ _ _ _ _ us hl => match us, hl with | [_, _], _ => rfl
  have F3 := fun_mk (st := s_Disk_size) l3 c3 k3
  have b3 := F3.binds (ps := ["self"]) fun _ _ _ _ _ _ us hl => match us, hl with | [_], _ => rfl
  have F4 := fun_mk (st := s_Disk_check_at) l4 c4 k4
  have b4 := F4.binds (ps := ["self", "at"]) fun _ _ _ _ _ _ us hl => match us, hl with | [_, _], _ => rfl
  have F5 := fun_mk (st := s_Disk_store) l5 c5 k5
  have b5 := F5.binds (ps := ["self", "lengths"]) fun _ _ _ _ _ _ us hl => match us, hl with | [_, _], _ => rfl
  have F6 := fun_mk (st := s_Disk_cut_power) l6 c6 k6
  have b6 := F6.binds (ps := ["self", "torn"]) fun _ _ _ _ _ _ us hl => match us, hl with | [_, _], _ => rfl
  have F7 := fun_mk (st := s_Disk_count_down) l7 c7 k7
  have b7 := F7.binds (ps := ["self"]) fun _ _ _ _ _ _ us hl => match us, hl with | [_], _ => rfl
  have F8 := fun_mk (st := s_Disk_read) l8 c8 k8
  have b8 := F8.binds (ps := ["self", "at"]) fun _ _ _ _ _ _ us hl => match us, hl with | [_, _], _ => rfl
  have F9 := fun_mk (st := s_Disk_write) l9 c9 k9
  have b9 := F9.binds (ps := ["self", "at", "block"]) fun _ _ _ _ _ _ us hl => match us, hl with | [_, _, _], _ => rfl
  have F10 := fun_mk (st := s_Disk_flush) l10 c10 k10
  have b10 := F10.binds (ps := ["self"]) fun _ _ _ _ _ _ us hl => match us, hl with | [_], _ => rfl
  have F11 := fun_mk (st := s_Disk_pending_count) l11 c11 k11
  have b11 := F11.binds (ps := ["self"]) fun _ _ _ _ _ _ us hl => match us, hl with | [_], _ => rfl
  have F12 := fun_mk (st := s_Disk_cut_count) l12 c12 k12
  have b12 := F12.binds (ps := ["self"]) fun _ _ _ _ _ _ us hl => match us, hl with | [_], _ => rfl
  have F13 := fun_mk (st := s_Disk_schedule_cut) l13 c13 k13
  have b13 := F13.binds (ps := ["self", "many", "torn"]) fun _ _ _ _ _ _ us hl => match us, hl with | [_, _, _], _ => rfl
  have F14 := fun_mk (st := s_law_cell) l14 c14 k14
  have b14 := F14.binds (ps := ["script", "k"]) fun _ _ _ _ _ _ us hl => match us, hl with | [_, _], _ => rfl
  have F15 := fun_mk (st := s_law_digits) l15 c15 k15
  have b15 := F15.binds (ps := ["script", "first", "last"]) fun _ _ _ _ _ _ us hl => match us, hl with | [_, _, _], _ => rfl
  have F16 := fun_mk (st := s_law_draw) l16 c16 k16
  have b16 := F16.binds (ps := ["box", "many"]) fun _ _ _ _ _ _ us hl => match us, hl with | [_, _], _ => rfl
  have F17 := fun_mk (st := s_law_torn) l17 c17 k17
  have b17 := F17.binds (ps := ["box", "many"]) fun _ _ _ _ _ _ us hl => match us, hl with | [_, _], _ => rfl
  have F18 := fun_mk (st := s_law_schedule) l18 c18 k18
  have b18 := F18.binds (ps := ["disk", "count", "torn"]) fun _ _ _ _ _ _ us hl => match us, hl with | [_, _, _], _ => rfl
  have F19 := fun_mk (st := s_law_do_raw) l19 c19 k19
  have b19 := F19.binds (ps := ["disk", "at", "block"]) fun _ _ _ _ _ _ us hl => match us, hl with | [_, _, _], _ => rfl
  have F20 := fun_mk (st := s_law_do) l20 c20 k20
  have b20 := F20.binds (ps := ["disk", "at", "block"]) fun _ _ _ _ _ _ us hl => match us, hl with | [_, _, _], _ => rfl
  have F21 := fun_mk (st := s_law) l21 c21 k21
  refine ⟨PySem.W.fnOf "law" "law" (defArgs s_law) (defBody s_law) (defScope s_law) .none kV21 dc21 pm21 an21 cd21 ct21, fun s v => .of_eq rfl, fun base _ _ => ?_⟩
  have C_are_within : Cal l.prog w K mg base "_are_within" 1 ["numbers", "most"] spWithin := ⟨f0, _, ok_are_within F0 z , b0, PySem.W.mg_of X G a0, k0⟩
  have C_check_torn : CalX l.prog w K mg base "_check_torn" 5 ["torn"] (spCheckTorn oC) := ⟨f1, _, ok_check_torn F1 z oor C_are_within, b1, PySem.W.mg_of X G a1, k1⟩
  have C_Disk : CalKX l.prog w K mg base "Disk" CDisk 5 ["self", "blocks"] (spDInit K CDisk oC) := ⟨PySem.W.mg_of X G qDisk0, f2, _, ⟨qDisk5, a2, i2, qDisk6⟩, ok_Disk_init F2 z tDisk oor, b2⟩
  have C_Disk_size : CalM l.prog w K mg base CDisk "size" 1 ["self"] (spDSize K CDisk) := ⟨tDisk.cl, f3, _, ok_Disk_size F3 z tDisk, b3, ⟨a3, i3, k3⟩⟩
  have C_Disk_check_at : CalMX l.prog w K mg base CDisk "_check_at" 5 ["self", "at"] (spDCheckAt K CDisk oC) := ⟨tDisk.cl, f4, _, ok_Disk_check_at F4 z tDisk oor, b4, ⟨a4, i4, k4⟩⟩
  have C_Disk_store : CalM l.prog w K mg base CDisk "_store" 1 ["self", "lengths"] (spDStore K CDisk) := ⟨tDisk.cl, f5, _, ok_Disk_store F5 z tDisk, b5, ⟨a5, i5, k5⟩⟩
  have C_Disk_cut_power : CalMX l.prog w K mg base CDisk "cut_power" 6 ["self", "torn"] (spDCut K CDisk oC) := ⟨tDisk.cl, f6, _, ok_Disk_cut_power F6 z tDisk C_check_torn C_Disk_store, b6, ⟨a6, i6, k6⟩⟩
  have C_Disk_count_down : CalMX l.prog w K mg base CDisk "_count_down" 7 ["self"] (spDDown K CDisk pwC) := ⟨tDisk.cl, f7, _, ok_Disk_count_down F7 z tDisk pc C_Disk_cut_power, b7, ⟨a7, i7, k7⟩⟩
  have C_Disk_read : CalMX l.prog w K mg base CDisk "read" 6 ["self", "at"] (spDRead K CDisk oC) := ⟨tDisk.cl, f8, _, ok_Disk_read F8 z tDisk C_Disk_check_at, b8, ⟨a8, i8, k8⟩⟩
  have C_Disk_write : CalMX l.prog w K mg base CDisk "write" 8 ["self", "at", "block"] (spDWrite K CDisk oC pwC) := ⟨tDisk.cl, f9, _, ok_Disk_write F9 z tDisk oor C_are_within C_Disk_check_at C_Disk_count_down, b9, ⟨a9, i9, k9⟩⟩
  have C_Disk_flush : CalMX l.prog w K mg base CDisk "flush" 8 ["self"] (spDFlush K CDisk pwC) := ⟨tDisk.cl, f10, _, ok_Disk_flush F10 z tDisk C_Disk_store C_Disk_count_down, b10, ⟨a10, i10, k10⟩⟩
  have C_Disk_pending_count : CalM l.prog w K mg base CDisk "pending_count" 1 ["self"] (spDPend K CDisk) := ⟨tDisk.cl, f11, _, ok_Disk_pending_count F11 z tDisk, b11, ⟨a11, i11, k11⟩⟩
  have C_Disk_cut_count : CalM l.prog w K mg base CDisk "cut_count" 1 ["self"] (spDCuts K CDisk) := ⟨tDisk.cl, f12, _, ok_Disk_cut_count F12 z tDisk, b12, ⟨a12, i12, k12⟩⟩
  have C_Disk_schedule_cut : CalMX l.prog w K mg base CDisk "schedule_cut" 6 ["self", "many", "torn"] (spDSched K CDisk oC) := ⟨tDisk.cl, f13, _, ok_Disk_schedule_cut F13 z tDisk oor C_check_torn, b13, ⟨a13, i13, k13⟩⟩
  have C_law_cell : Cal l.prog w K mg base "_law_cell" 1 ["script", "k"] (spCell K) := ⟨f14, _, ok_law_cell F14 z , b14, PySem.W.mg_of X G a14, k14⟩
  have C_law_digits : Cal l.prog w K mg base "_law_digits" 2 ["script", "first", "last"] (spDigits K) := ⟨f15, _, ok_law_digits F15 z C_law_cell, b15, PySem.W.mg_of X G a15, k15⟩
  have C_law_draw : Cal l.prog w K mg base "_law_draw" 1 ["box", "many"] spDraw := ⟨f16, _, ok_law_draw F16 z , b16, PySem.W.mg_of X G a16, k16⟩
  have C_law_torn : Cal l.prog w K mg base "_law_torn" 2 ["box", "many"] spTornD := ⟨f17, _, ok_law_torn F17 z C_law_draw, b17, PySem.W.mg_of X G a17, k17⟩
  have C_law_schedule : Cal l.prog w K mg base "_law_schedule" 7 ["disk", "count", "torn"] (spSched K CDisk oC) := ⟨f18, _, ok_law_schedule F18 z tDisk oor C_Disk_schedule_cut, b18, PySem.W.mg_of X G a18, k18⟩
  have C_law_do_raw : CalX l.prog w K mg base "_law_do_raw" 9 ["disk", "at", "block"] (spDoRaw K CDisk oC pwC) := ⟨f19, _, ok_law_do_raw F19 z tDisk C_Disk_flush C_Disk_write, b19, PySem.W.mg_of X G a19, k19⟩
  have C_law_do : Cal l.prog w K mg base "_law_do" 10 ["disk", "at", "block"] (spDo K CDisk oC pwC) := ⟨f20, _, ok_law_do F20 z oor pc pg pcX y1 y2 y3 y4 C_law_do_raw, b20, PySem.W.mg_of X G a20, k20⟩
  exact ok_law F21 z tDisk C_Disk C_Disk_cut_power C_Disk_read C_Disk_pending_count C_Disk_cut_count C_law_digits C_law_draw C_law_torn C_law_schedule C_law_do
end K42
open PySem PySem.W PyProof.Rows
set_option maxRecDepth 100000 in
set_option maxHeartbeats 0 in
theorem PySem.Challenge.cw_pagesatonce_k42_cut_on_schedule_holds : PySem.Challenge.rw_pagesatonce_k42_cut_on_schedule.Holds := by
  w_on; o_law; k_head; (case hw => w_witness2)
  k_fill
  refine Pg.walkG (l := PySem.Challenge.rw_pagesatonce_k42_cut_on_schedule) (n := 63) (k := 12) (x := "script") (sp := K42.spLaw) rfl (by decide) rfl ⟨rfl, by decide, by decide⟩ (fun w h Y => PySem.W.kIn_of Y) ?F (fun K H a ns hl hS => ⟨a, ns, rfl, hS, hl, fun _ => rfl⟩)
  case F =>
    intro w mg fa h KX G hmg
    refine' K42.all_mk KX G hmg ?a0 ?l0 ?c0 ?k0 ?a1 ?l1 ?c1 ?k1 ?a2 ?i2 ?l2 ?c2 ?k2 ?a3 ?i3 ?l3 ?c3 ?k3 ?a4 ?i4 ?l4 ?c4 ?k4 ?a5 ?i5 ?l5 ?c5 ?k5 ?a6 ?i6 ?l6 ?c6 ?k6 ?a7 ?i7 ?l7 ?c7 ?k7 ?a8 ?i8 ?l8 ?c8 ?k8 ?a9 ?i9 ?l9 ?c9 ?k9 ?a10 ?i10 ?l10 ?c10 ?k10 ?a11 ?i11 ?l11 ?c11 ?k11 ?a12 ?i12 ?l12 ?c12 ?k12 ?a13 ?i13 ?l13 ?c13 ?k13 ?a14 ?l14 ?c14 ?k14 ?a15 ?l15 ?c15 ?k15 ?a16 ?l16 ?c16 ?k16 ?a17 ?l17 ?c17 ?k17 ?a18 ?l18 ?c18 ?k18 ?a19 ?l19 ?c19 ?k19 ?a20 ?l20 ?c20 ?k20 ?a21 ?l21 ?c21 ?k21 ?qDisk0 ?qDisk1 ?qDisk2 ?qDisk3 ?qDisk4 ?qDisk5 ?qDisk6 ?pDisk0 ?pDisk1 ?pDisk2 ?pDisk3 ?pDisk4 ?z0 ?z1 ?z2 ?z3 ?z4 ?z5 ?z6 ?z7 ?z8 ?z9 ?n0 ?n1 ?n2 ?n3 ?n4 ?xo0 ?xo1 ?xo2 ?xo3 ?xo4 ?xo5 ?xo6 ?xo7 ?xo8 ?xo9 ?xoa ?xob ?xoc ?xod ?xoe ?xof ?xog ?xoh ?xoi ?xoj ?xok ?xol ?xom ?xon ?xoo ?xop ?xoq ?xor' ?xpc0 ?xpc1 ?xpc2 ?xpc3 ?xpc4 ?xpg0 ?xpg1 ?xpg2 ?xpg3 ?xpg4 ?u1 ?u2 ?u3 ?u4 ?u5 ?u6 ?u7 ?y5 ?y6 ?y7 ?y8 ?y9 ?ya ?yb
    (case qDisk0 => k_is); (case qDisk1 => k_is); (case qDisk2 => k_is); (case qDisk3 => k_is); (case qDisk4 => k_is); (case qDisk5 => k_is)
    (case qDisk6 => k_is); (case pDisk0 => k_is); (case pDisk1 => k_is); (case pDisk2 => k_is); (case pDisk3 => k_is); (case pDisk4 => k_is)
    (case a0 => k_is); (case l0 => k_is); (case c0 => k_is); (case k0 => k_is); (case a1 => k_is); (case l1 => k_is)
    (case c1 => k_is); (case k1 => k_is); (case a2 => k_is); (case i2 => k_is); (case l2 => k_is); (case c2 => k_is)
    (case k2 => k_is); (case a3 => k_is); (case i3 => k_is); (case l3 => k_is); (case c3 => k_is); (case k3 => k_is)
    (case a4 => k_is); (case i4 => k_is); (case l4 => k_is); (case c4 => k_is); (case k4 => k_is); (case a5 => k_is)
    (case i5 => k_is); (case l5 => k_is); (case c5 => k_is); (case k5 => k_is); (case a6 => k_is); (case i6 => k_is)
    (case l6 => k_is); (case c6 => k_is); (case k6 => k_is); (case a7 => k_is); (case i7 => k_is); (case l7 => k_is)
    (case c7 => k_is); (case k7 => k_is); (case a8 => k_is); (case i8 => k_is); (case l8 => k_is); (case c8 => k_is)
    (case k8 => k_is); (case a9 => k_is); (case i9 => k_is); (case l9 => k_is); (case c9 => k_is); (case k9 => k_is)
    (case a10 => k_is); (case i10 => k_is); (case l10 => k_is); (case c10 => k_is); (case k10 => k_is); (case a11 => k_is)
    (case i11 => k_is); (case l11 => k_is); (case c11 => k_is); (case k11 => k_is); (case a12 => k_is); (case i12 => k_is)
    (case l12 => k_is); (case c12 => k_is); (case k12 => k_is); (case a13 => k_is); (case i13 => k_is); (case l13 => k_is)
    (case c13 => k_is); (case k13 => k_is); (case a14 => k_is); (case l14 => k_is); (case c14 => k_is); (case k14 => k_is)
    (case a15 => k_is); (case l15 => k_is); (case c15 => k_is); (case k15 => k_is); (case a16 => k_is); (case l16 => k_is)
    (case c16 => k_is); (case k16 => k_is); (case a17 => k_is); (case l17 => k_is); (case c17 => k_is); (case k17 => k_is)
    (case a18 => k_is); (case l18 => k_is); (case c18 => k_is); (case k18 => k_is); (case a19 => k_is); (case l19 => k_is)
    (case c19 => k_is); (case k19 => k_is); (case a20 => k_is); (case l20 => k_is); (case c20 => k_is); (case k20 => k_is)
    (case a21 => k_is); (case l21 => k_is); (case c21 => k_is); (case k21 => k_is); (case z0 => k_is); (case z1 => k_is)
    (case z2 => k_is); (case z3 => k_is); (case z4 => k_is); (case z5 => k_is); (case z6 => k_is); (case z7 => k_is)
    (case z8 => k_is); (case z9 => k_is); (case n0 => k_is); (case n1 => k_is); (case n2 => k_is); (case n3 => k_is)
    (case n4 => k_is)
    (case xo0 => k_is)
    (case xo1 => k_is)
    (case xo2 => k_is)
    (case xo3 => first | rfl | decide +kernel)
    (case xo4 => k_is)
    (case xo5 => k_is)
    (case xo6 => k_is)
    (case xo7 => k_is)
    (case xo8 => k_is)
    (case xo9 => k_is)
    (case xoa => k_is)
    (case xob => k_is)
    (case xoc => k_is)
    (case xod => k_is)
    (case xoe => k_is)
    (case xof => k_is)
    (case xog => first | rfl | k_is)
    (case xoh => k_is)
    (case xoi => first | k_is | rfl)
    (case xoj => first | k_is | rfl)
    (case xok => first | rfl | decide +kernel)
    (case xol => k_is)
    (case xom => k_is)
    (case xon => k_is)
    (case xoo => rfl)
    (case xop => first | rfl | decide +kernel)
    (case xoq => first | rfl | decide +kernel)
    (case xor' => k_is)
    (case xpc0 => k_is)
    (case xpc1 => first | k_exc | k_is | decide +kernel)
    (case xpc2 => k_is)
    (case xpc3 => k_is)
    (case xpc4 => k_is)
    (case xpg0 => k_is)
    (case xpg1 => first | k_exc | k_is | decide +kernel)
    (case xpg2 => k_is)
    (case xpg3 => k_is)
    (case xpg4 => k_is)
    (case u1 => k_is)
    (case u2 => k_is)
    (case u3 => k_is)
    (case u4 => k_is)
    (case u5 => k_is)
    (case u6 => k_is)
    (case u7 => k_is)
    (case y5 => k_is)
    (case y6 => k_is)
    (case y7 => k_is)
    (case y8 => k_is)
    (case y9 => k_is)
    (case ya => k_is)
    (case yb => k_is)

