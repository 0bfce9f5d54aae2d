import PyProof.Rows.All
import Wide.All
import OpenK.AllK
import Wide.FinOn
import PyProof.ReprRoads
import PyProof.ReprLen
import KE.GoesMore
import HandS.Base
import HandS.Call
import HandS.List
import HandS.Comp
import HandS.Ends
import HandS.Dict
import HandS.Iter
import HandS.Text
import HandS.Words
import HandS.WordsList
import HandS.WordsDict
import HandS.Walk
import HandS.Style
import HandS.Zip
import HandS.TupAny
import HandS.SortInts
import HandS.Wide
import HandS.Star
import KE.GoesZip
import HandS.Zip0
import HandS.TupMul
import HandS.RaiseMore
import PySem.Challenge.RW_wakedenough_k16_works_by_hand
set_option Elab.async false
set_option linter.all false
set_option maxRecDepth 100000
namespace WK
open PySem PySem.Spec PyProof.Rows L2

/-! ### a def that may ask for repr: what is printed around the call is known to be nothing -/
abbrev NoE : XK := fun _ _ _ => False
structure FnG (P : Program) (w : World) (K : PySem.W.Frag) (mg : Str → Option Value) (base : Heap) (k : Nat) (f : Addr) (fd : FuncData) (ps : List Str) (sp : Sp) : Prop where
  go : ∀ (A : Around) (outer : List Env) (s : Shared) (H : Hp) (args : Args) (us : List Value) (vs : List V) (Q : VK),
    A.guards = some [] → Room k A → Env0 P w K mg base A outer s H →
    BindsTo s fd args (ps.zip us) → Vals vs us → vs.length = ps.length → sp vs H Q NoE →
    codeAny (model P w) A (.call (.ref f) args) (CR CX0 outer P w H s Q NoE) s

theorem guards_deeper {A : Around} {env : Env} (h : A.guards = some []) : (A.deeper env).guards = some [] := h

section
variable {P : Program} {w : World} {K : PySem.W.Frag} {mg : Str → Option Value} {base : Heap}
theorem okG {x qual : Str} {st : Stmt} {f : Addr} {fd : FuncData} {N ps : List Str} {k : Nat} {sp : Sp}
    (F : Fun K x qual st f fd) (S : FnScope N ps (defScope st))
    (bd : ∀ (cdv : Value) (A : Around) (outer : List Env) (s : Shared) (H : Hp) (vs : List V) (Q : VK),
      Room k (A.deeper (envOfC qual (defScope st) s.heap.objs.size f cdv)) → A.guards = some [] → sp vs H Q NoE →
      ∃ t, PSs (cxOf CX0 P w K mg base N qual (defScope st) f cdv A outer s H NoE).nox (defBody st) t ∧
        t { nx := fun _ G => Q .non G, rt := Q } (start N vs) H) :
    FnG P w K mg base (k + 1) f fd ps sp := by
  obtain ⟨oc, od, kV, doc, pm, an, cdv, ct, osl, rfl, lk, hcd⟩ := F.ex
  constructor
  intro A outer s H args us vs Q gd room env bind rel hl hsp
  have inK : K.In s.heap := env.mod.kin.keeps (fun b o e => (env.bs b o e).1)
  have noLim : s.heap.NoLimit := env.mod.nolimit.keeps (fun b o e => (env.bs b o e).1)
  have kinds : ∀ y ∈ ps.zip us,
      (defScope st).names.lookup y.1 = some .local ∨
      ((defScope st).names.lookup y.1 = some .cell ∧
        ((cellsFrom (s.heap.objs.size + 1) (defScope st).names []).lookup y.1).isSome = true) := by
    rintro ⟨n, v⟩ hy
    cases S.par n (List.of_mem_zip hy).1 with
    | inl q => exact Or.inl q
    | inr q => exact Or.inr ⟨q, PySem.W.cellsFrom_some _ _ _ (Or.inl q)⟩
  refine codeAny_call_function room.depth
    (inK _ _ lk) rfl S.co S.gen rfl
    (PySem.W.codeRec_of inK hcd) (bind _ _ _ _ ?_)
  refine wpAny_newFunctionEnv_cells S.kind kinds ?_
  intro e1 he s1 ic
  subst he
  refine ⟨noLim.keeps ic.toInCall.keep, ?_⟩
  apply codeAny_func
  obtain ⟨t, ht, hq⟩ := bd cdv A outer s H vs Q (room.deeper _) gd hsp
  have I0 := inv_start (CX := CX0) (P := P) (w := w) (K := K) (mg := mg) (base := base) (E := NoE) S room.hd env hl rel ic
  refine wpAny_mono (ht.nox.run [] s1 (start N vs) H _ I0 hq) ?_ (fun _ _ z => z)
  intro fl s2 hs
  cases fl with
  | brk => obtain ⟨_, _, _, q⟩ := hs; exact q.elim
  | cont => obtain ⟨_, _, _, q⟩ := hs; exact q.elim
  | ret u =>
    obtain ⟨v, σ', H', J, rv, q⟩ := hs
    exact ⟨v, H', J.os, J.bare, J.base, J.hok, rv, q⟩
  | next =>
    obtain ⟨σ', H', J, q⟩ := hs
    exact ⟨V.non, H', J.os, J.bare, J.base, J.hok, rfl, q⟩
end
end WK
set_option Elab.async false
set_option linter.all false
set_option maxRecDepth 100000
namespace WK
open PySem PySem.Spec PyProof.Rows L2

/-! ### repr of data -/
mutual
theorem dp_nodict {K : PySem.W.Frag} {H : Hp} : ∀ (d : PyData) (v : V), Dp K H v d → d.hasDict = false
  | .none, _, _ => rfl
  | .bool _, _, _ => rfl
  | .int _, _, _ => rfl
  | .str _, _, _ => rfl
  | .list ds, _, h => by
    cases h with
    | lst _ q => simpa only [PyData.hasDict] using dp_nodictAll ds _ q
  | .tuple ds, _, h => by
    cases h with
    | tup _ q => simpa only [PyData.hasDict] using dp_nodictAll ds _ q
  | .dict _, _, h => by cases h
theorem dp_nodictAll {K : PySem.W.Frag} {H : Hp} : ∀ (ds : List PyData) (vs : List V), DpAll K H vs ds → PyData.hasDictAll ds = false
  | [], _, _ => rfl
  | d :: ds, _, h => by
    cases h with
    | cons a b => simp only [PyData.hasDictAll, dp_nodict d _ a, dp_nodictAll ds _ b, Bool.or_self]
end

/-- data that repr shows in room -/
structure Shows (d : PyData) : Prop where
  ok : d.showable = true
  dep : d.depth ≤ 20
  len : d.shown.length ≤ sizeLine

def rRepr (K : PySem.W.Frag) : List V → Hp → VK → Prop := fun xs H Q => ∃ (a : Addr) (d : PyData), xs = [.ref a] ∧ Dp K H (.ref a) d ∧ Shows d ∧ Q (.str d.shown) H
theorem call_reprD {X : Cx} (hg : X.A.guards = some []) (hu : X.A.units + 64 < cLine) : CallR X (.builtin "repr") (rRepr X.K) := by
  rintro pins s σ H xs us Q I r ⟨a, d, rfl, hd, sh, q⟩
  obtain ⟨u, rfl, ru⟩ := vals1 r
  cases ru
  obtain ⟨as, r1⟩ := Dp.reads I d _ _ hd rfl
  have hdep := sh.dep
  exact repr_of_reads' r1 sh.ok (PyData.noDict_hsm (dp_nodict d _ hd)) hg (by omega) (fun _ _ e => e)
    (fun h' u tk hk => ⟨.str d.shown, H, I.kept hk, ⟨u, rfl⟩, q⟩) sh.len

/-! ### the law's call, where nothing is printed around it -/
theorem law_callG {P : Program} {w : World} {K : PySem.W.Frag} {mg mb : Str → Option Value} {k : Nat} {fa a : Addr} {fd : FuncData} {x : Str} {sp : Sp} {s₁ : Shared} {vs : List Value} {ns : List Int}
    (KX : K.In s₁.heap) (hns : s₁.heap.Ns mainGlobals mg) (hb : s₁.heap.Ns builtinsNs mb) (hbb : ∀ x : Str, x ≠ "__name__" → mb x = bootBuiltins x) (hlim : s₁.heap.NoLimit) (hg : s₁.gens = #[])
    (ha : s₁.heap.get? a = some { cls := .type "list", data := .seq vs.toArray }) (hi : IntsAre vs ns) (hl : ns.length ≤ sizeLine) (hr : Room k callerA)
    (F : ∀ base : Heap, K.In base → base.Ns mainGlobals mg → FnG P w K mg base k fa fd [x] sp)
    (hbind : ∀ (s : Shared) (u : Value), BindsTo s fd ⟨[u], []⟩ [(x, u)])
    (hsp : ∀ H : Hp, Only H → SqL K H a (ns.map V.int) → sp [.ref a] H (fun v _ => v = .bl true) NoE) :
    codeAny (model P w) callerA (.call (.ref fa) ⟨[.ref a], []⟩)
      (fun r s' => r = .ok (.ret (.bool true)) ∧ OldK s₁.heap s'.heap ∧ s'.os = s₁.os ∧ AllBare s'.gens) s₁ := by
  have main : ∀ H : Hp, Only H → SqL K H a (ns.map V.int) → HOk P w H s₁.heap →
      (∀ b, H b ≠ none → b = a) → (H a ≠ none → K.lookup a = none) →
      codeAny (model P w) callerA (.call (.ref fa) ⟨[.ref a], []⟩)
        (fun r s' => r = .ok (.ret (.bool true)) ∧ OldK s₁.heap s'.heap ∧ s'.os = s₁.os ∧ AllBare s'.gens) s₁ := by
    intro H only seq hok justA notK
    have isA : ∀ {b : Addr} {u : HO}, H b = some u → b = a := by
      intro b u q
      exact justA b (by simp [q])
    have hid : ∀ {b : Addr} {o : Obj}, s₁.heap.get? b = some o → H b = none → (hidT s₁.heap H).get? b = some o :=
      fun e n => hidT_get e n
    have dictFree : ∀ {b : Addr} {o : Obj} {es : Array DictEntry} {ep : Nat}, s₁.heap.get? b = some o → o.data = .dict es ep → H b = none := by
      intro b o es ep e d
      match q : H b with
      | none => rfl
      | some u =>
        have := isA q
        subst this
        rw [ha] at e
        injection e with e
        subst e
        exact nomatch d
    have spaces : ∀ {b : Addr} {m : Str → Option Value}, s₁.heap.Ns b m → (hidT s₁.heap H).Ns b m := by
      rintro b m ⟨o, es, ep, e, d, rest⟩
      exact ⟨o, es, ep, hid e (dictFree e d), d, rest⟩
    have inK : K.In (hidT s₁.heap H) := by
      intro b o e
      refine hid (KX b o e) ?_
      match q : H b with
      | none => rfl
      | some u =>
        have := isA q
        subst this
        have z := notK (by simp [q])
        rw [e] at z
        exact nomatch z
    have md : Mod K mg (hidT s₁.heap H) := by
      obtain ⟨mc, l1, l2⟩ := hlim
      exact ⟨inK, spaces hns, ⟨mb, spaces hb, hbb⟩, ⟨mc, spaces l1, l2⟩⟩
    have none0 : ∀ b : Addr, ¬ b ∈ ([] : List Addr) := fun b z => nomatch z
    have env : Env0 P w K mg (hidT s₁.heap H) callerA [] s₁ H :=
      { frames := rfl, mod := md, bs := fun b o e => of_hidT e, bsz := Nat.le_of_eq (hidT_size _ _), funs := trivial,
        frf := fun b z => absurd z (none0 b), hok := hok, bare := .of_eq hg }
    have run := (F _ inK (spaces hns)).go callerA [] s₁ H ⟨[.ref a], []⟩ [.ref a] [.ref a] (fun v _ => v = .bl true) rfl hr env
      (hbind s₁ (.ref a)) (.cons rfl .nil) rfl (hsp H only seq)
    refine codeAny_mono run ?_
    intro r s' h
    match r, h with
    | .error e, h => exact False.elim h
    | .ok .next, h => exact False.elim h
    | .ok .brk, h => exact False.elim h
    | .ok .cont, h => exact False.elim h
    | .ok (.ret u), h =>
      obtain ⟨v, H', os, bare, un, hok', rel, ev⟩ := h
      have ev : v = .bl true := ev
      subst ev
      have eu : u = Value.bool true := rel
      subst eu
      refine ⟨rfl, OldK.of_keep ?_, os, bare⟩
      intro b o e
      match q : H b with
      | none => exact un.keep b o e q (none0 b) (none0 b)
      | some v =>
        cases only b with
        | inl z => rw [q] at z; exact nomatch z
        | inr z =>
          obtain ⟨ob, xs, z⟩ := z
          have here := (hok b _ z).1
          have there := (hok' b _ (un.frzs b ob _ z)).1
          rw [e] at here
          injection here with here
          subst here
          exact there
  have rel := vals_ints hi
  match hk : K.lookup a with
  | some o =>
    have e := KX a o hk
    rw [ha] at e
    injection e with e
    subst e
    refine main (fun _ => none) (fun _ => Or.inl rfl) (Or.inr ⟨_, vs.toArray, _, hk, rfl, rfl, rfl, ?_, ?_⟩) ?_ (fun b z => absurd rfl z) (fun z => absurd rfl z)
    · rw [List.size_toArray, hi.length]; exact hl
    · simpa using rel
    · intro b u z; exact nomatch z
  | none =>
    let H0 : Hp := fun b => if b = a then some (.frz { cls := .type "list", data := .seq vs.toArray } (.lst (ns.map V.int))) else none
    have atA : H0 a = some (.frz { cls := .type "list", data := .seq vs.toArray } (.lst (ns.map V.int))) := if_pos rfl
    have off : ∀ b, b ≠ a → H0 b = none := fun b n => if_neg n
    refine main H0 ?_ (Or.inl (Or.inr ⟨_, atA⟩)) ?_ ?_ (fun _ => hk)
    · intro b
      by_cases e : b = a
      · subst e; exact Or.inr ⟨_, _, atA⟩
      · exact Or.inl (off b e)
    · intro b u z
      by_cases e : b = a
      · subst e
        rw [atA] at z
        injection z with z
        subst z
        exact ⟨ha, by rw [List.length_map]; exact hl, vs, _, rel, ha⟩
      · rw [off b e] at z; exact nomatch z
    · intro b z
      by_cases e : b = a
      · exact e
      · exact absurd (off b e) z

theorem walk_ofG {l : PySem.W.OpenLaw} {n k : Nat} {q : Program} {loose : List Str} {XP : (Str → Option Value) → Heap → Prop} {YP : World → Heap → Prop} {d : DefRec} {K : Params → PySem.W.Frag} {sp : World → Sp} {x : Str}
    (hn : l.most = some n) (hn2 : n ≤ sizeLine) (hdf : d.params.defaults = []) (hr : Room k callerA)
    (hY : ∀ (w : World) (h : Heap), YP w h → (K w.params).In h)
    (F : ∀ (w : World) (mg : Str → Option Value) (fa : Addr) (h : Heap), (K w.params).In h → h.Ns mainGlobals mg → mg d.name = some (.ref fa) →
      ∃ fd : FuncData, (∀ (s : Shared) (u : Value), BindsTo s fd ⟨[u], []⟩ [(x, u)]) ∧
        ∀ base : Heap, (K w.params).In base → base.Ns mainGlobals mg → FnG l.prog w (K w.params) mg base k fa fd [x] (sp w))
    (hsp : ∀ (w : World) (H : Hp) (a : Addr) (ns : List Int), ns.length ≤ n → Only H → SqL (K w.params) H a (ns.map V.int) → sp w [.ref a] H (fun v _ => v = .bl true) NoE) :
    PySem.W.WalkO q loose XP YP l.row.toRowW d [] (fun f vs => PySem.call f vs) := by
  apply Att.attach_call hn hdf
  intro w s₀ s₁ mg mb fa o pm cd doc a vs ns G Y ho hd hcd hmg hobj hints hlen hg
  obtain ⟨fd, hb, hF⟩ := F w mg fa _ (hY w _ Y) G.T.g hmg
  exact law_callG (hY w _ Y) G.T.g G.T.b G.T.builtins G.T.nolimit hg hobj hints (Nat.le_trans hlen hn2) hr hF hb
    (fun H hO hS => hsp w H a ns hlen hO hS)
end WK
set_option Elab.async false
set_option linter.all false
set_option maxRecDepth 100000
namespace WK
open PySem PySem.Spec PyProof.Rows L2

/-! ### heaps that go on -/
/-- all but p and c stays -/
def Off (p c : Addr) (H H' : Hp) : Prop := ∀ b o, b ≠ p → b ≠ c → H b = some o → H' b = some o
theorem Off.refl (p c : Addr) (H : Hp) : Off p c H H := fun _ _ _ _ h => h
theorem Off.trans {p c : Addr} {H H1 H2 : Hp} (a : Off p c H H1) (b : Off p c H1 H2) : Off p c H H2 := fun x o h1 h2 e => b x o h1 h2 (a x o h1 h2 e)
theorem Same.off {p c : Addr} {H H' : Hp} (a : Same H H') : Off p c H H' := fun b o _ _ e => a b o e
theorem same_new {H : Hp} {p : Addr} {o : HO} (h : H p = none) : Same H (upd H p o) := fun b x e => by
  rw [upd_ne (ne_of_none e h)]
  exact e
/-- a new object stands at p: go on with any heap that holds all that was, and it -/
theorem fresh {H : Hp} {p : Addr} {o : HO} {G : Hp → Prop} (np : H p = none) (k : ∀ H1, Same H H1 → H1 p = some o → G H1) : G (upd H p o) := k _ (same_new np) upd_same
theorem Off.at_p {p c : Addr} {H : Hp} {o : HO} : Off p c H (upd H p o) := fun b x h1 _ e => by
  rw [upd_ne h1]
  exact e
theorem Off.at_c {p c : Addr} {H : Hp} {o : HO} : Off p c H (upd H c o) := fun b x _ h2 e => by
  rw [upd_ne h2]
  exact e

/-! ### the source of draws -/
def srcK (c : Addr) (l m t : Int) : List (Key × V) := [(.inr "cells", .ref c), (.inr "left", .int l), (.inr "mixed", .int m), (.inr "turn", .int t)]
theorem k12 : ¬ (("cells" : Str) = "left") := by decide +kernel
theorem k13 : ¬ (("cells" : Str) = "mixed") := by decide +kernel
theorem k14 : ¬ (("cells" : Str) = "turn") := by decide +kernel
theorem k23 : ¬ (("left" : Str) = "mixed") := by decide +kernel
theorem k24 : ¬ (("left" : Str) = "turn") := by decide +kernel
theorem k34 : ¬ (("mixed" : Str) = "turn") := by decide +kernel
theorem kne {a b : Str} (h : ¬ a = b) : ¬ ((.inr a : Key) = .inr b) := fun e => h (Sum.inr.inj e)
section
variable {c : Addr} {l m t x : Int}
theorem src_cells : valV (srcK c l m t) (.inr "cells") = some (.ref c) := valV_pos rfl
theorem src_left : valV (srcK c l m t) (.inr "left") = some (.int l) := (valV_neg (kne k12)).trans (valV_pos rfl)
theorem src_mixed : valV (srcK c l m t) (.inr "mixed") = some (.int m) := (valV_neg (kne k13)).trans ((valV_neg (kne k23)).trans (valV_pos rfl))
theorem src_turn : valV (srcK c l m t) (.inr "turn") = some (.int t) := (valV_neg (kne k14)).trans ((valV_neg (kne k24)).trans ((valV_neg (kne k34)).trans (valV_pos rfl)))
theorem put_left : putK (srcK c l m t) (.inr "left") (.int x) = srcK c x m t := by
  simp [putK, srcK, k12, k13, k14, k23, k24, k34, Ne.symm k23, Ne.symm k24, Ne.symm k34]
theorem put_mixed : putK (srcK c l m t) (.inr "mixed") (.int x) = srcK c l x t := by
  simp [putK, srcK, k12, k13, k14, k23, k24, k34, Ne.symm k23, Ne.symm k24, Ne.symm k34]
theorem put_turn : putK (srcK c l m t) (.inr "turn") (.int x) = srcK c l m x := by
  simp [putK, srcK, k12, k13, k14, k23, k24, k34, Ne.symm k23, Ne.symm k24, Ne.symm k34]
end
/-- the source at p, its cells at c -/
structure Src (H : Hp) (p c : Addr) : Prop where
  ex : ∃ (cells : List Int) (l m t : Int), H p = some (.dK (srcK c l m t)) ∧ H c = some (.lst (cells.map V.int))
theorem Src.ne {H : Hp} {p c : Addr} (S : Src H p c) : p ≠ c := by
  obtain ⟨_, _, _, _, a, b⟩ := S.ex
  exact ne_of a b (by intro z; cases z)
theorem Src.same {H H' : Hp} {p c : Addr} (S : Src H p c) (s : Same H H') : Src H' p c := by
  obtain ⟨cells, l, m, t, a, b⟩ := S.ex
  exact ⟨cells, l, m, t, s _ _ a, s _ _ b⟩
theorem Src.ne_p {H : Hp} {p c a : Addr} (S : Src H p c) (n : H a = none) : a ≠ p := by
  obtain ⟨_, _, _, _, q, _⟩ := S.ex
  exact (ne_of_none q n).symm
theorem Src.ne_c {H : Hp} {p c a : Addr} (S : Src H p c) (n : H a = none) : a ≠ c := by
  obtain ⟨_, _, _, _, _, q⟩ := S.ex
  exact (ne_of_none q n).symm
theorem Src.tup_ne {H : Hp} {p c a : Addr} {xs : List V} (S : Src H p c) (n : H a = some (.tup xs)) : a ≠ p ∧ a ≠ c := by
  obtain ⟨_, _, _, _, q1, q2⟩ := S.ex
  exact ⟨ne_of n q1 (by intro z; cases z), ne_of n q2 (by intro z; cases z)⟩
theorem Off.tup {H H' : Hp} {p c a : Addr} {xs : List V} (o : Off p c H H') (S : Src H p c) (n : H a = some (.tup xs)) : H' a = some (.tup xs) :=
  o a _ (S.tup_ne n).1 (S.tup_ne n).2 n

/-! ### what the helpers promise -/
def spSource (K : PySem.W.Frag) : Sp := fun vs H Q _ => ∃ (a : Addr) (ns : List Int), vs = [.ref a] ∧ SqL K H a (ns.map V.int) ∧ ns.length ≤ 63 ∧
  ∀ H' p c, Src H' p c → Same H H' → H p = none → H c = none → Q (.ref p) H'
def spPick : Sp := fun vs H Q _ => ∃ (p c : Addr) (many : Int), vs = [.ref p, .int many] ∧ Src H p c ∧ many < 1073741824 ∧
  ∀ H' r, Src H' p c → Off p c H H' → 0 ≤ r → (r < many ∨ r = 0) → Q (.int r) H'
def spOf (K : PySem.W.Frag) : Sp := fun vs H Q _ => ∃ (p c l : Addr) (xs : List V), vs = [.ref p, .ref l] ∧ Src H p c ∧ (∀ H', Off p c H H' → SqL K H' l xs ∨ SqT K H' l xs) ∧ xs ≠ [] ∧ xs.length ≤ 100000 ∧
  ∀ H' x, x ∈ xs → Src H' p c → Off p c H H' → Q x H'

/-! ### data and heaps -/
mutual
theorem dp_same {K : PySem.W.Frag} {H H' : Hp} (s : Same H H') : ∀ (d : PyData) (v : V), Dp K H v d → Dp K H' v d
  | .none, _, h => by cases h; exact .non
  | .bool _, _, h => by cases h; exact .bl _
  | .int _, _, h => by cases h; exact .int _
  | .str _, _, h => by cases h; exact .str _
  | .list ds, _, h => by
    cases h with
    | lst a q => exact .lst (s.seq a) (dp_sameAll s ds _ q)
  | .tuple ds, _, h => by
    cases h with
    | tup a q =>
      refine .tup ?_ (dp_sameAll s ds _ q)
      rcases a with (a | ⟨o, a⟩) | a
      · exact .inl (.inl (s _ _ a))
      · exact .inl (.inr ⟨o, s _ _ a⟩)
      · exact .inr a
  | .dict _, _, h => by cases h
theorem dp_sameAll {K : PySem.W.Frag} {H H' : Hp} (s : Same H H') : ∀ (ds : List PyData) (vs : List V), DpAll K H vs ds → DpAll K H' vs ds
  | [], _, h => by cases h; exact .nil
  | d :: ds, _, h => by
    cases h with
    | cons a b => exact .cons (dp_same s d _ a) (dp_sameAll s ds _ b)
end
theorem dp_ints {K : PySem.W.Frag} {H : Hp} : ∀ ns : List Int, DpAll K H (ns.map V.int) (ns.map PyData.int)
  | [] => .nil
  | n :: ns => .cons (.int n) (dp_ints ns)
theorem dp_snoc {K : PySem.W.Frag} {H : Hp} : ∀ {vs : List V} {ds : List PyData} {v : V} {d : PyData}, DpAll K H vs ds → Dp K H v d → DpAll K H (vs ++ [v]) (ds ++ [d])
  | _, _, _, _, .nil, h => .cons h .nil
  | _, _, _, _, .cons a b, h => .cons a (dp_snoc b h)
theorem dp_len {K : PySem.W.Frag} {H : Hp} : ∀ {vs : List V} {ds : List PyData}, DpAll K H vs ds → vs.length = ds.length
  | _, _, .nil => rfl
  | _, _, .cons _ b => congrArg (· + 1) (dp_len b)
/-! ### small things -/
theorem int_at {ns : List Int} {i : Nat} {x : V} (h : (ns.map V.int)[i]? = some x) : ∃ z, ns[i]? = some z ∧ x = .int z := by
  rw [List.getElem?_map] at h
  obtain ⟨z, e, r⟩ := Option.map_eq_some_iff.mp h
  exact ⟨z, e, r.symm⟩
theorem mulr {i j : Int} (h : -(2 ^ 64) < j ∧ j < 2 ^ 64) : CMul i j := .inr h
theorem mull {i j : Int} (h : -(2 ^ 64) < i ∧ i < 2 ^ 64) : CMul i j := .inl h
theorem new_of {H H2 : Hp} {p : Addr} {o : HO} (e : upd H p o = H2) (np : H p = none) : Same H H2 ∧ H2 p = some o := by
  subst e
  exact ⟨same_new np, upd_same⟩
theorem chg {H H2 : Hp} {p : Addr} {o : HO} (e : upd H p o = H2) : H2 p = some o ∧ ∀ b, b ≠ p → H2 b = H b := by
  subst e
  exact ⟨upd_same, fun b h => upd_ne h⟩
theorem small63 {n : Nat} (h : n ≤ 63) : n < sizeLine := Nat.lt_of_le_of_lt h (by decide)
theorem abs_eq (z : Int) : (if z < 0 then -z else z) = (z.natAbs : Int) := by split <;> omega
theorem take_snoc {α β : Type} {xs : List α} {i : Nat} {z : α} (h : xs[i]? = some z) (f : α → β) : ((xs.take (i + 1)).map f) = (xs.take i).map f ++ [f z] := by
  rw [List.take_add_one, h, List.map_append]
  rfl
theorem yesT {σ : L2.St} {H : Hp} {A B : Bool → Hp → Prop} {s t : L2.St} (e : s = t) (h : A true H) : s = t ∧ tYes σ H fun b G => if b = true then A b G else B b G := ⟨e, h⟩
theorem ifT {A B : Prop} {c : Bool} (e : c = true) (h : A) : if c = true then A else B := by
  subst e
  exact h
theorem while3 {c : TT} {tb : TS} {D : Ends} {σ : L2.St} {H : Hp} (Pv : Nat → L2.St → Hp → Prop) (n : Nat) (h0 : Pv n σ H) (after : ∀ m σ H, Pv m σ H → D.nx σ H)
    (turn : (∀ m σ H, Pv m σ H → D.nx σ H) → ∀ m σ H, Pv m σ H → c σ H fun b H1 => if b = true then
      ∃ N : L2.St → Hp → Prop, (∀ σ' H', N σ' H' → ∃ m', m' < m ∧ Pv m' σ' H') ∧ tb { D with nx := N, ct := N, bk := D.nx } σ H1 else D.nx σ H1) : tWhile c tb D σ H :=
  ⟨Pv, ⟨n, h0⟩, turn after⟩
theorem src_get {H : Hp} {p : Addr} {kvs : List (Key × V)} {x : Str} {v : V} (h : H p = some (.dK kvs)) (e : valV kvs (.inr x) = some v) : DGet H p (.str x) (some v) := .inl ⟨kvs, .inr x, .inl h, rfl, e.symm⟩
theorem src_put {H H' : Hp} {p : Addr} {kvs kvs' : List (Key × V)} {x : Str} {v : V} (h : H p = some (.dK kvs)) (l : kvs.length = 4) (e : putK kvs (.inr x) v = kvs') (hH : H' = upd H p (.dK kvs')) : DPut H p (.str x) v H' :=
  .inl ⟨kvs, .inr x, h, rfl, by rw [l]; decide, by rw [e]; exact hH⟩
theorem fmod_bounds {a b : Int} (h : 0 < b) : 0 ≤ a.fmod b ∧ a.fmod b < b := by
  rw [Int.fmod_eq_emod_of_nonneg a (by omega)]
  exact ⟨Int.emod_nonneg _ (by omega), Int.emod_lt_of_pos _ h⟩
end WK
set_option Elab.async false
set_option linter.all false
set_option maxRecDepth 100000
namespace WK
open PySem PySem.Spec PyProof.Rows L2

/-! ### data that repr shows, and how long that is -/
mutual
def Lil : PyData → Prop
  | .none => True
  | .bool _ => True
  | .int i => i.natAbs < 10 ^ 150
  | .str x => ∀ c ∈ x.cps.toList, c < 16 ^ 8
  | .list xs => LilAll xs
  | .tuple xs => LilAll xs
  | .dict _ => False
def LilAll : List PyData → Prop
  | [] => True
  | x :: xs => Lil x ∧ LilAll xs
end
mutual
def cost : PyData → Nat
  | .none => 5
  | .bool _ => 5
  | .int _ => 151
  | .str x => 10 * x.length + 4
  | .list xs => costAll xs + 3
  | .tuple xs => costAll xs + 3
  | .dict _ => 0
def costAll : List PyData → Nat
  | [] => 0
  | x :: xs => cost x + 2 + costAll xs
end
theorem lil_int {i : Int} (h : i.natAbs < 10 ^ 150) : i.natAbs.log2 < 1920 := by
  by_cases h0 : i.natAbs = 0
  · rw [h0]; decide
  · exact (Nat.log2_lt h0).mpr (Nat.lt_of_lt_of_le h (by decide +kernel))
theorem shown_int {i : Int} (h : i.natAbs < 10 ^ 150) : (PyData.shown (.int i)).length ≤ 151 := by
  have e : PyData.shown (.int i) = Str.ofString (toString i) := rfl
  rw [e, PySem.ofString_length]
  exact int_text_length_le10 (k := 150) (by decide) h
mutual
theorem lil_show : ∀ d : PyData, Lil d → d.showable = true ∧ d.shown.length ≤ cost d
  | .none, _ => ⟨rfl, by decide⟩
  | .bool b, _ => ⟨rfl, by cases b <;> decide⟩
  | .int i, h => ⟨by simpa only [PyData.showable, decide_eq_true_eq] using lil_int (by simpa only [Lil] using h), shown_int (by simpa only [Lil] using h)⟩
  | .str x, h => ⟨rfl, by
      have e := StrLaws.reprText_len x (by simpa only [Lil] using h)
      simp only [PyData.shown, cost]
      omega⟩
  | .list xs, h => by
    obtain ⟨a, b⟩ := lil_showAll xs (by simpa only [Lil] using h)
    have l := listText_len_le (PyData.shownAll xs)
    have n := PyData.shownAll_length xs
    refine ⟨by simpa only [PyData.showable] using a, ?_⟩
    simp only [PyData.shown, cost]
    omega
  | .tuple xs, h => by
    obtain ⟨a, b⟩ := lil_showAll xs (by simpa only [Lil] using h)
    have l := tupleText_len_le (PyData.shownAll xs)
    have n := PyData.shownAll_length xs
    refine ⟨by simpa only [PyData.showable] using a, ?_⟩
    simp only [PyData.shown, cost]
    omega
  | .dict _, h => by simp only [Lil] at h
theorem lil_showAll : ∀ xs : List PyData, LilAll xs → PyData.showableAll xs = true ∧ ((PyData.shownAll xs).map (·.length)).sum + 2 * xs.length ≤ costAll xs
  | [], _ => ⟨rfl, by simp [PyData.shownAll, costAll]⟩
  | x :: xs, h => by
    have h' : Lil x ∧ LilAll xs := by simpa only [LilAll] using h
    obtain ⟨a, b⟩ := lil_show x h'.1
    obtain ⟨c, d⟩ := lil_showAll xs h'.2
    refine ⟨by simp only [PyData.showableAll, a, c, Bool.and_self], ?_⟩
    simp only [PyData.shownAll, costAll, List.map_cons, List.sum_cons, List.length_cons]
    omega
end
theorem shows_of {d : PyData} (h : Lil d) (hd : d.depth ≤ 20) (hc : cost d ≤ sizeLine) : Shows d :=
  ⟨(lil_show d h).1, hd, Nat.le_trans (lil_show d h).2 hc⟩
theorem lilAll_iff : ∀ {xs : List PyData}, LilAll xs ↔ ∀ x ∈ xs, Lil x
  | [] => by simp [LilAll]
  | x :: xs => by simp [LilAll, lilAll_iff (xs := xs)]
theorem costAll_le {c : Nat} : ∀ {xs : List PyData}, (∀ x ∈ xs, cost x ≤ c) → costAll xs ≤ xs.length * (c + 2)
  | [], _ => by simp [costAll]
  | x :: xs, h => by
    have h1 := h x (List.mem_cons_self ..)
    have h2 := costAll_le (xs := xs) fun y hy => h y (List.mem_cons_of_mem _ hy)
    simp only [costAll, List.length_cons, Nat.add_mul]
    omega
theorem depthAll_le {c : Nat} : ∀ {xs : List PyData}, (∀ x ∈ xs, x.depth ≤ c) → PyData.depthAll xs ≤ c
  | [], _ => by simp [PyData.depthAll]
  | x :: xs, h => by
    have h1 := h x (List.mem_cons_self ..)
    have h2 := depthAll_le (xs := xs) fun y hy => h y (List.mem_cons_of_mem _ hy)
    simp only [PyData.depthAll]
    omega
theorem canLayAll_iff : ∀ {xs : List PyData}, PyData.canLayAll0 xs = true ↔ ∀ x ∈ xs, x.canLay0 = true
  | [] => by simp [PyData.canLayAll0]
  | x :: xs => by simp [PyData.canLayAll0, canLayAll_iff (xs := xs)]
/-- a row of ints as data -/
abbrev intsD (ns : List Int) : List PyData := ns.map PyData.int
theorem lil_ints {ns : List Int} (h : ∀ n ∈ ns, n.natAbs < 10 ^ 150) : LilAll (intsD ns) := by
  rw [lilAll_iff]
  intro x hx
  obtain ⟨n, hn, rfl⟩ := List.mem_map.mp hx
  simpa only [Lil] using h n hn
theorem cost_ints {ns : List Int} : costAll (intsD ns) ≤ ns.length * 153 := by
  have := costAll_le (c := 151) (xs := intsD ns) (fun x hx => by
    obtain ⟨n, hn, rfl⟩ := List.mem_map.mp hx
    simp only [cost]
    omega)
  rw [List.length_map] at this
  exact this
theorem depth_ints {ns : List Int} : PyData.depthAll (intsD ns) = 0 := by
  have := depthAll_le (c := 0) (xs := intsD ns) (fun x hx => by
    obtain ⟨n, hn, rfl⟩ := List.mem_map.mp hx
    simp only [PyData.depth]
    omega)
  omega
theorem lay_ints {ns : List Int} : PyData.canLayAll0 (intsD ns) = true := by
  rw [canLayAll_iff]
  intro x hx
  obtain ⟨n, hn, rfl⟩ := List.mem_map.mp hx
  rfl
theorem shaped_list_ints {ns : List Int} : SeqAt.shaped (.list (intsD ns)) = true := by
  simp only [SeqAt.shaped, PyData.canLay0, lay_ints, PyData.depth, depth_ints]
  decide
theorem shaped_tup_ints {ns : List Int} : SeqAt.shaped (.tuple (intsD ns)) = true := by
  simp only [SeqAt.shaped, PyData.canLay0, lay_ints, PyData.depth, depth_ints]
  decide
theorem eqv_nil {ns : List Int} : PyData.eqv (.list (intsD ns)) (.list []) = decide (ns = []) := by
  cases ns with
  | nil => simp [PyData.eqv, PyData.eqvAll]
  | cons n ns => simp [PyData.eqv, PyData.eqvAll]
theorem nul_ints {K : PySem.W.Frag} {H : Hp} {a : Addr} {ns : List Int} (h : H a = some (.lst (ns.map V.int))) : Dp K H (.ref a) (.list (intsD ns)) := .lst (.inl (.inl h)) (dp_ints ns)

/-! ### slices -/
theorem cut_take {xs : List V} {k : Nat} : cutV xs none (some (k : Int)) = xs.take k := by
  unfold cutV
  rw [HT.sIx_nat, HT.sIx_none, List.drop_zero, Nat.sub_zero, List.take_eq_take_iff]
  omega
theorem cut_drop1 {xs : List V} : cutV xs (some 1) none = xs.drop 1 := by
  unfold cutV
  rw [show HT.sIx xs.length 0 (some 1) = min 1 xs.length from HT.sIx_nat xs.length 0 1, HT.sIx_none]
  cases xs with
  | nil => rfl
  | cons x r =>
    have e : min 1 (x :: r).length = 1 := by simp only [List.length_cons]; omega
    rw [e, List.drop_one, List.tail_cons, List.length_cons, Nat.add_sub_cancel, List.take_length]
theorem Off.new {p c a : Addr} {H H1 : Hp} {o : HO} (s : Off p c H H1) (n : H a = none) : Off p c H (upd H1 a o) := fun b x h1 h2 e => by
  rw [upd_ne (ne_of_none e n)]
  exact s b x h1 h2 e
theorem Off.free {p c a : Addr} {H H1 : Hp} (s : Off p c H H1) (n : H1 a = none) (h1 : a ≠ p) (h2 : a ≠ c) : H a = none := by
  match q : H a with
  | none => rfl
  | some o =>
    have := s a o h1 h2 q
    rw [n] at this
    exact nomatch this
theorem Src.free {p c a : Addr} {H H1 : Hp} (s : Off p c H H1) (S : Src H1 p c) (n : H1 a = none) : H a = none := s.free n (S.ne_p n) (S.ne_c n)
theorem Src.upd_new {p c a : Addr} {H : Hp} {o : HO} (S : Src H p c) (h1 : a ≠ p) (h2 : a ≠ c) : Src (upd H a o) p c := by
  obtain ⟨cells, l, m, t, e1, e2⟩ := S.ex
  exact ⟨cells, l, m, t, by rw [upd_ne h1.symm]; exact e1, by rw [upd_ne h2.symm]; exact e2⟩
def spDraw : Sp := fun vs H Q _ => ∃ (p c : Addr) (ticks : Nat) (most : Int), vs = [.ref p, .int ticks, .int most] ∧ Src H p c ∧ ticks ≤ 1000 ∧ 1 ≤ most ∧ most < 1000000000 ∧
  ∀ (H' : Hp) (t : Addr) (ns : List Int), Src H' p c → Off p c H H' → H' t = some (.tup (ns.map V.int)) → H t = none → ns.length = ticks → (∀ z ∈ ns, 0 ≤ z ∧ z ≤ most) → Q (.ref t) H'
theorem while4 {c : TT} {tb : TS} {D : Ends} {σ : L2.St} {H : Hp} (Pv : Nat → L2.St → Hp → Prop) (Pa : L2.St → Hp → Prop) (n : Nat) (h0 : Pv n σ H) (after : ∀ σ H, Pa σ H → D.nx σ H)
    (turn : (∀ σ H, Pa σ H → D.nx σ H) → ∀ m σ H, Pv m σ H → c σ H fun b H1 => if b = true then
      ∃ N : L2.St → Hp → Prop, (∀ σ' H', N σ' H' → ∃ m', m' < m ∧ Pv m' σ' H') ∧ tb { D with nx := N, ct := N, bk := D.nx } σ H1 else D.nx σ H1) : tWhile c tb D σ H :=
  ⟨Pv, ⟨n, h0⟩, turn after⟩
theorem dp_app {K : PySem.W.Frag} {H : Hp} : ∀ {vs : List V} {ds : List PyData} {us : List V} {es : List PyData}, DpAll K H vs ds → DpAll K H us es → DpAll K H (vs ++ us) (ds ++ es)
  | _, _, _, _, .nil, h => h
  | _, _, _, _, .cons a b, h => .cons a (dp_app b h)
theorem rep1 {z : Int} : ∀ {k : Nat}, (List.replicate k [V.int z]).flatten = (List.replicate k z).map V.int
  | 0 => rfl
  | k + 1 => by
    rw [List.replicate_succ, List.flatten_cons, rep1, List.replicate_succ, List.map_cons]
    rfl
theorem many_small {n : Nat} (h : n ≤ 100000) : n < sizeLine := Nat.lt_of_le_of_lt h (by decide)
theorem tif_R {t : TT} {ta tb : TE} {σ : L2.St} {H : Hp} {Q : VK} (R : V → Hp → Prop) (key : ∀ v H, R v H → Q v H) (h : ∀ Q' : VK, (∀ v H, R v H → Q' v H) → tIf t ta tb σ H Q') : tIf t ta tb σ H Q := h Q key
end WK
set_option Elab.async false
set_option linter.all false
set_option maxRecDepth 100000
namespace WK
open PySem PySem.Spec PyProof.Rows L2
open AutoSeq1 (wpAny_loadPart')

/-! ### enumerate of a tuple -/
def it_obj (t : Addr) : Obj := { cls := .type "tuple_iterator", data := .fields #[.ref t, .int 0 0] }
def en_obj (i : Addr) : Obj := { cls := .type "enumerate", data := .fields #[.none, .bool false, .ref i, rawInt 0, .none, .none] }
def enum_heap (h : Heap) (t : Addr) : Heap := (h.push (it_obj t)).push (en_obj h.objs.size)
theorem enum_make (t : Addr) (its : Array Value) (n : Nat) (dct : Option Addr) (sl : Array (Option Value)) :
    Meets (Builtin.«enumerate.__new__» ⟨[.type "enumerate", .ref t], []⟩)
      (fun _ R s => s.heap.get? t = some { cls := .type "tuple", dict := dct, data := .seq its n, slots := sl } ∧
        R (.ok (.ret (.ref (s.heap.push (it_obj t)).objs.size)))
          { s with heap := enum_heap s.heap t }) :=
  .of_wp fun prog w A R s h => by
    obtain ⟨hp, g, d, tk, os⟩ := s
    obtain ⟨ht, h⟩ := h
    have hsub := sub_enumerate
    have tup : Heap.IsTuple (Shared.heap ⟨hp, g, d, tk, os⟩) t its := ⟨_, ht, rfl, n, rfl⟩
    wp_walk using wpAny_loadPart' ht
    refine wpAny_stack_any fun st => wpAny_pure ?_
    split
    · rename_i c _ _ _ _ _
      cases (c == Value.type "enumerate")
      · wp_walk using wpAny_loadPart' ht, wpAny_pyIter_tuple tup
        exact ⟨_, rfl, h⟩
      · wp_walk using wpAny_loadPart' ht, wpAny_pyIter_tuple tup
        exact ⟨_, rfl, h⟩
    · wp_walk using wpAny_loadPart' ht, wpAny_pyIter_tuple tup
      exact ⟨_, rfl, h⟩
section
variable {prog : Program} {w : World} {A : Around} {E : Value → Shared → Prop} {s : Shared}
theorem call_enumT {t : Addr} {its : Array Value} {Q : Value → Shared → Prop} (tup : s.heap.IsTuple t its)
    (h : ∀ h', IsEnum h' (s.heap.objs.size + 1) s.heap.objs.size 0 .none → h'.IsTupleIter s.heap.objs.size t 0 →
      (∀ b o, s.heap.get? b = some o → h'.get? b = some o) → Q (.ref (s.heap.objs.size + 1)) { s with heap := h' }) :
    wpAny (model prog w) A (call (.type "enumerate") [.ref t]) Q E s := by
  obtain ⟨⟨c, dct, dt, sl⟩, ht, hc, n, hd⟩ := tup
  have hc : c = .type "tuple" := hc
  have hd : dt = .seq its n := hd
  subst hc
  subst hd
  have size1 : (s.heap.push (it_obj t)).objs.size = s.heap.objs.size + 1 := Heap.size_push ..
  have en : (enum_heap s.heap t).get? (s.heap.objs.size + 1) = some (en_obj s.heap.objs.size) := by
    have := Heap.get?_push_size (s.heap.push (it_obj t)) (o := en_obj s.heap.objs.size) rfl
    rw [size1] at this
    exact this
  refine callType_new F.called_enumerate (by decide) (F.typeCall_enumerate_1 _) (F.newCall_enumerate_1 _)
    (fun obj => F.args_object_init_2 obj _) F.entry_enumerate_new (enum_make t its n dct sl) ⟨ht, ?_⟩
  show _ ∧ _
  rw [size1]
  refine ⟨⟨_, en, rfl⟩, h _ en ?_ ?_⟩
  · exact ⟨_, Heap.get?_push_of_some _ (Heap.get?_push_size _ rfl), rfl, rfl⟩
  · intro b o x
    exact Heap.get?_push_of_some _ (Heap.get?_push_of_some _ x)
end

/-- the tuple at a as it stands, each item with its number in a new pair -/
def IteT (K : PySem.W.Frag) (a : Addr) : It :=
  ⟨fun i H => ∃ (xs : List V) (x : V), SqT K H a xs ∧ xs[i]? = some x,
   fun i H v H' => ∃ T x, v = .ref T ∧ H T = none ∧ H' = upd H T (.tup [.int (i : Nat), x]) ∧ ∀ xs, SqT K H a xs → xs[i]? = some x,
   fun i H => ∃ xs : List V, SqT K H a xs ∧ xs.length ≤ i⟩
theorem turn_enumT {P : Program} {w : World} {K : PySem.W.Frag} {elts : List Expr} {kk : Nat} {tpos : Pos} (a e it : Addr) :
    Turn P w K (.Tuple elts kk tpos) (IteT K a) [e, it] e
      (fun i h => (∃ old, IsEnum h e it ((i : Nat) : Int) old) ∧ h.IsTupleIter it a i ∧ e ≠ it) where
  mem := by simp
  obj := by
    rintro i h ⟨⟨old, he⟩, ⟨o, ho, hc, hd⟩, _⟩ b hb
    rcases List.mem_cons.mp hb with z | z
    · rw [z]
      exact ⟨_, he, fun v q => nomatch q⟩
    · rw [List.mem_singleton.mp z]
      exact ⟨o, ho, fun v q => by rw [hd] at q; exact nomatch q⟩
  keep := by
    rintro i h h' ⟨⟨old, he⟩, hi, hne⟩ k
    exact ⟨⟨old, k e (by simp) _ he⟩, hi.at (fun o q => k it (by simp) o q), hne⟩
  item := by
    intro X hP hw hK hc i pins s σ H E I hf st hg
    subst hP hw hK
    obtain ⟨⟨old, he⟩, hit, hne⟩ := st
    obtain ⟨xs, x, hq, hx⟩ := hg
    obtain ⟨its, rv, tp, _⟩ := I.tuple hq
    obtain ⟨u, hu, ru⟩ := rv.get hx
    have le : e < s.heap.objs.size := Heap.lt_size he
    have li : it < s.heap.objs.size := by
      obtain ⟨_, q, _⟩ := hit
      exact Heap.lt_size q
    have ait : a ≠ it := by
      rintro rfl
      obtain ⟨o1, q1, c1, _⟩ := tp
      obtain ⟨o2, q2, c2, _⟩ := hit
      rw [q1] at q2
      injection q2 with q2
      subst q2
      rw [c1] at c2
      injection c2 with c2
      exact absurd c2 (by decide)
    have ae : e ≠ a := by
      rintro rfl
      obtain ⟨o1, q1, c1, _⟩ := tp
      have he' : s.heap.get? e = some _ := he
      rw [he'] at q1
      injection q1 with q1
      subst q1
      injection c1 with c1
      exact absurd c1 (by decide)
    have szI : i < its.toArray.size := by
      rw [List.size_toArray]
      exact (List.getElem?_eq_some_iff.mp hu).1
    refine wpAny_pyNext_enum_itemD (Draws.tuple (A := X.A.in1) (I.ok.hd hc) it a ait its.toArray) he ⟨hit, tp⟩ szI hne (by simp [hne, ae]) ?_
    intro x' h' tk px out st' hT hsz hk
    have hxx : its.toArray[i]? = some x' := px
    have exu : x' = u := by
      rw [List.getElem?_toArray, hu] at hxx
      injection hxx with z
      exact z.symm
    subst exu
    refine ⟨_, rfl, wpAny_letOwnedTupleGo_enum (s := { s with heap := h', toks := tk + 1 }) out ?_⟩
    intro h'' he' sb
    have T2 : h''.get? s.heap.objs.size = some { cls := .type "tuple", data := .seq #[.int i tk, x'] } := (sb.2 _ (Nat.ne_of_gt le)).trans hT
    have new : ObjOk X.prog X.w (upd H s.heap.objs.size (.tup [.int (i : Nat), x])) h'' s.heap.objs.size (.tup [.int (i : Nat), x]) := by
      refine ⟨by show 2 ≤ sizeLine; decide, [.int i tk, x'], .cons ⟨_, rfl⟩ (.cons ru .nil), ⟨_, T2, rfl, _, rfl⟩⟩
    have I1 : Inv X pins σ (upd H s.heap.objs.size (.tup [.int (i : Nat), x])) { s with heap := h'', toks := tk + 1 } := by
      refine I.turnedNew (ch := [e, it]) ?_ hf (Nat.le_refl _) new
      intro b o hb q
      have b1 : b ≠ e := fun z => hb (by simp [z])
      have b2 : b ≠ it := fun z => hb (by simp [z])
      exact (sb.2 b b1).trans (hk b o b1 b2 q)
    refine ⟨.ref s.heap.objs.size, _, I1, rfl, ?_, ⟨⟨x', ?_⟩, ?_, hne⟩, ?_⟩
    · refine ⟨_, x, rfl, I.hok.fresh (Nat.le_refl _), rfl, ?_⟩
      intro ys hy
      rw [I.tuple_inj hy hq]
      exact hx
    · have e1 : ((i + 1 : Nat) : Int) = (i : Int) + 1 := by omega
      rw [e1]
      exact he'
    · exact st'.1.at fun o q => (sb.2 it (Ne.symm hne)).trans q
    · intro b hb
      have lb : b < s.heap.objs.size := by
        rcases List.mem_cons.mp hb with z | z
        · rw [z]; exact le
        · rw [List.mem_singleton.mp z]; exact li
      rw [upd_ne (Nat.ne_of_lt lb)]
      exact (hf b hb).1
  done := by
    intro X hP hw hK hc i pins s σ H E I hf st hg
    subst hP hw hK
    obtain ⟨⟨old, he⟩, hit, hne⟩ := st
    obtain ⟨xs, hq, hx⟩ := hg
    obtain ⟨its, rv, tp, _⟩ := I.tuple hq
    have hl := rv.length
    have over : its.toArray[i + 0]? = none := by
      rw [List.getElem?_toArray]
      exact List.getElem?_eq_none_iff.mpr (by omega)
    have D0 : Draws X.prog X.w X.A.in1 it [it, a] 0 (fun _ _ => False) (fun j h => h.IsTupleIter it a (i + j) ∧ h.IsTuple a its.toArray) :=
      { live := fun _ _ z => by
          obtain ⟨o, ho, _⟩ := z.1
          exact ⟨o, ho⟩
        frame := fun _ _ _ z hk => ⟨z.1.at (fun o e => hk it (by simp) o e), z.2.at (fun o e => hk a (by simp) o e)⟩
        item := fun _ _ _ _ z => absurd z (Nat.not_lt_zero _)
        done := fun s Q E z hE => wpAny_nextOf_tuple_end (I.ok.hd hc) z.1 z.2 over hE }
    obtain ⟨f0, f1, f2, f3, f4, f5⟩ := hf it (by simp)
    refine wpAny_pyNext_enum_endD D0 he ⟨hit, tp⟩ ?_
    intro h' eb
    exact ⟨rfl, I.turned (t' := s.toks) (fun b o hb q => eb b o hb q) f0 f1 f3 f4 f5⟩
  self := fun A i s Q E st h => by
    obtain ⟨⟨_, he⟩, _⟩ := st
    exact wpAny_pyIter_enum he h
def iEnumT (K : PySem.W.Frag) (ta : TA) : TI := fun σ H R => ta σ H fun vs H1 => ∃ a xs, vs = [.ref a] ∧ SqT K H1 a xs ∧ R (IteT K a) H1
theorem pi_enumT {X : Cx} {e : Expr} {ta : TA} {p pos tpos : Pos} {elts : List Expr} {kk : Nat} (hg : Gl X "enumerate") (hm : X.mg "enumerate" = none) (ha : PA X [e] ta)
    (hs : starEach [e] X.env = [(false, eval e X.env)] := by rfl) :
    PI X (.Tuple elts kk tpos) (.Call (.Name "enumerate" p) [e] [] pos) (iEnumT X.K ta) := by
  constructor
  intro pins s σ H R I h
  have go := ha.run pos pins s σ H _ I h
  refine Call_ (ld_blt I hg hm boot_enumerate (PyProof.Rows.callWith_type1 (thn go ?_) hs rfl))
  rintro us s1 ⟨vs, H1, I1, r1, a, xs, rfl, hq, q⟩
  obtain ⟨u, rfl, r⟩ := vals1 r1
  cases r
  obtain ⟨its, rv, tp, _⟩ := I1.tuple hq
  refine call_enumT tp ?_
  intro h' en hit hk
  refine wpAny_pyIter_enum en ?_
  have I2 : Inv X pins σ H1 { s1 with heap := h' } := I1.kept (t' := s1.toks) hk
  refine ⟨s1.heap.objs.size + 1, [s1.heap.objs.size + 1, s1.heap.objs.size], _, _, H1, rfl, I2,
    turn_enumT a (s1.heap.objs.size + 1) s1.heap.objs.size, ⟨⟨.none, en⟩, hit, Nat.succ_ne_self _⟩, ?_, q⟩
  intro b hb
  have le : s1.heap.objs.size ≤ b := by
    rcases List.mem_cons.mp hb with z | z
    · rw [z]; exact Nat.le_add_right _ _
    · rw [List.mem_singleton.mp z]; exact Nat.le_refl _
  exact I1.fpOk le (I1.hok.fresh le)
theorem walk_enumT {K : PySem.W.Frag} {a : Addr} {xs : List V} : Walk (IteT K a) xs.length (fun H => SqT K H a xs) (YPair (fun i => some (.int (i : Nat))) (fun i => xs[i]?)) := by
  constructor
  · intro i H hi q
    exact ⟨xs, xs[i], q, by simp [hi]⟩
  · intro H q
    exact ⟨xs, q, Nat.le_refl _⟩
  · rintro i H v H' _ q ⟨T, x, h1, h2, h3, h4⟩
    exact ⟨T, .int (i : Nat), x, h1, h2, h3, rfl, h4 xs q⟩
end WK
set_option Elab.async false
set_option linter.all false
set_option maxRecDepth 100000
namespace WK
open PySem PySem.Spec PyProof.Rows L2

/-! ### sum of a tuple -/
def rSumT (K : PySem.W.Frag) : List V → Hp → VK → Prop := fun vs H Q => ∃ (a : Addr) (ns : List Int), vs = [V.ref a] ∧ SqT K H a (ns.map V.int) ∧ Q (.int ns.sum) H
theorem cr_sumT {X : Cx} (hc : X.calm = true) : CallR X (.builtin "sum") (rSumT X.K) := by
  rintro pins s σ H vs us Q I r ⟨a, ns, rfl, hs, q⟩
  obtain ⟨its, rv, tp, _⟩ := I.tuple hs
  rw [Vals.ref1 r]
  have hi := rv.ints
  obtain ⟨xs, e⟩ := hi.allInts.items
  have hn : numsOf (intItems xs).toList = ns := by
    rw [← e]
    exact hi.numsOf
  rw [nums_intItems] at hn
  rw [e] at tp
  have tp' : s.heap.IsTuple a (intItems xs) := tp
  have lt : a < s.heap.objs.size := by
    obtain ⟨_, g, _⟩ := tp
    exact Heap.lt_size g
  refine call_sum_walkG (wpAny_pyIter_tuple tp' ?_)
  refine ⟨s.heap.objs.size, [s.heap.objs.size, a], [s.heap.objs.size], _, _, _, numAt xs, rfl,
    Walks.tuple (A := X.A.in1) (I.ok.hd hc) s.heap.objs.size a (Nat.ne_of_lt lt) (intItems xs),
    ⟨⟨_, Heap.get?_push_size _ rfl, rfl, rfl⟩, tp'.push _⟩, ?_, fun _ _ => intItems_at, ?_⟩
  · intro b hb
    show b < (s.heap.push _).objs.size
    rw [Heap.size_push]
    rcases List.mem_cons.mp hb with z | z
    · rw [z]; exact Nat.lt_succ_self _
    · rw [List.mem_singleton.mp z]; exact Nat.lt_succ_of_lt lt
  · intro h' tk t' hk
    have k : ∀ b o, s.heap.get? b = some o → h'.get? b = some o := by
      intro b o x
      refine hk b o (fun z => ?_) (Heap.get?_push_of_some _ x)
      rw [List.mem_singleton.mp z] at x
      exact absurd (Heap.lt_size x) (Nat.lt_irrefl _)
    have ev : preSum (numAt xs) (intItems xs).size = ns.sum := by
      rw [preSum_eq, List.take_of_length_le (by simp [intItems]), hn]
    rw [ev]
    exact ⟨.int ns.sum, H, I.kept k, ⟨t', rfl⟩, q⟩

/-! ### zip of a list and a tuple -/
def z1 (h : Heap) (l : Addr) : Heap := h.push { cls := .type "list_iterator", data := .fields #[.ref l, .int 0 0] }
def z2 (h : Heap) (l t : Addr) : Heap := (z1 h l).push { cls := .type "tuple_iterator", data := .fields #[.ref t, .int 0 0] }
def z3 (h : Heap) (l t : Addr) : Heap := (z2 h l t).push { cls := .type "tuple", data := .seq #[.ref h.objs.size, .ref (z1 h l).objs.size] }
def z4 (h : Heap) (l t : Addr) : Heap := (z3 h l t).push { cls := .type "tuple", data := .seq #[.none, .none] }
def z5 (h : Heap) (l t : Addr) : Heap := (z4 h l t).push { cls := .type "zip", data := .fields #[.none, .bool false, .bool false, .ref (z2 h l t).objs.size, .ref (z3 h l t).objs.size] }
theorem zipM_make (l t : Addr) (xs ys : Array Value) :
    Meets (Builtin.«zip.__new__» ⟨[.type "zip", .ref l, .ref t], []⟩)
      (fun _ R s => s.heap.IsList l xs ∧ s.heap.IsTuple t ys ∧ R (.ok (.ret (.ref (z4 s.heap l t).objs.size))) { s with heap := z5 s.heap l t }) :=
  .of_wp fun prog w A R s h => by
    obtain ⟨hp, g, d, tk, os⟩ := s
    obtain ⟨hl, ht, h⟩ := h
    have hsub := sub_zip
    have a1 : Heap.IsList (Shared.heap ⟨hp, g, d, tk, os⟩) l xs := hl
    have a2 : Heap.IsTuple (Shared.heap ⟨hp.push { cls := .type "list_iterator", data := .fields #[.ref l, .int 0 0] }, g, d, tk, os⟩) t ys := Heap.IsTuple.push ht _
    wp_walk using wpAny_pyIter_list a1, wpAny_pyIter_tuple a2
    exact ⟨_, rfl, h⟩
section
variable {prog : Program} {w : World} {A : Around} {E : Value → Shared → Prop} {s : Shared}
theorem call_zipM {l t : Addr} {xs ys : Array Value} {Q : Value → Shared → Prop} (hl : s.heap.IsList l xs) (ht : s.heap.IsTuple t ys)
    (h : ∀ h', IsZip h' (s.heap.objs.size + 4) (s.heap.objs.size + 2) (s.heap.objs.size + 3) .none →
      PySem.IsPair h' (s.heap.objs.size + 2) (.ref s.heap.objs.size) (.ref (s.heap.objs.size + 1)) → PySem.IsPair h' (s.heap.objs.size + 3) .none .none →
      h'.IsListIter s.heap.objs.size l 0 → h'.IsTupleIter (s.heap.objs.size + 1) t 0 →
      (∀ c o, s.heap.get? c = some o → h'.get? c = some o) → Q (.ref (s.heap.objs.size + 4)) { s with heap := h' }) :
    wpAny (model prog w) A (call (.type "zip") [.ref l, .ref t]) Q E s := by
  refine callType_new F.called_zip (by decide) (F.typeCall_zip_2 _ _) (F.newCall_zip_2 _ _)
    (fun obj => F.args_object_init_3 obj _ _) F.entry_zip_new (zipM_make l t xs ys) ⟨hl, ht, ?_⟩
  have n1 : (z1 s.heap l).objs.size = s.heap.objs.size + 1 := Heap.size_push ..
  have n2 : (z2 s.heap l t).objs.size = s.heap.objs.size + 2 := (Heap.size_push ..).trans (congrArg (· + 1) n1)
  have n3 : (z3 s.heap l t).objs.size = s.heap.objs.size + 3 := (Heap.size_push ..).trans (congrArg (· + 1) n2)
  have n4 : (z4 s.heap l t).objs.size = s.heap.objs.size + 4 := (Heap.size_push ..).trans (congrArg (· + 1) n3)
  have p5 : (z5 s.heap l t).get? (z4 s.heap l t).objs.size = some _ := Heap.get?_push_size _ rfl
  have p4 : (z5 s.heap l t).get? (z3 s.heap l t).objs.size = some _ := Heap.get?_push_of_some _ (Heap.get?_push_size _ rfl)
  have p3 : (z5 s.heap l t).get? (z2 s.heap l t).objs.size = some _ :=
    Heap.get?_push_of_some _ (Heap.get?_push_of_some _ (Heap.get?_push_size _ rfl))
  have p2 : (z5 s.heap l t).get? (z1 s.heap l).objs.size = some _ :=
    Heap.get?_push_of_some _ (Heap.get?_push_of_some _ (Heap.get?_push_of_some _ (Heap.get?_push_size _ rfl)))
  have p1 : (z5 s.heap l t).get? s.heap.objs.size = some _ :=
    Heap.get?_push_of_some _ (Heap.get?_push_of_some _ (Heap.get?_push_of_some _ (Heap.get?_push_of_some _ (Heap.get?_push_size _ rfl))))
  show _ ∧ _
  rw [n2, n3, n4] at p5
  rw [n1, n2] at p3
  rw [n3] at p4
  rw [n1] at p2
  rw [n4]
  refine ⟨⟨_, p5, rfl⟩, h _ p5 p3 p4 ⟨_, p1, rfl, rfl⟩ ⟨_, p2, rfl, rfl⟩ ?_⟩
  intro c o x
  exact Heap.get?_push_of_some _ (Heap.get?_push_of_some _ (Heap.get?_push_of_some _ (Heap.get?_push_of_some _ (Heap.get?_push_of_some _ x))))
end
/-- the list at a and the tuple at b as they stand, the items in new pairs -/
def ItzM (K : PySem.W.Frag) (a b : Addr) : It :=
  ⟨fun i H => ∃ (xs ys : List V) (x y : V), SqL K H a xs ∧ SqT K H b ys ∧ xs[i]? = some x ∧ ys[i]? = some y,
   fun i H v H' => ∃ T x y, v = .ref T ∧ H T = none ∧ H' = upd H T (.tup [x, y]) ∧ (∀ xs, SqL K H a xs → xs[i]? = some x) ∧ ∀ ys, SqT K H b ys → ys[i]? = some y,
   fun i H => ∃ xs ys : List V, SqL K H a xs ∧ SqT K H b ys ∧ (i = xs.length ∧ i ≤ ys.length ∨ i = ys.length ∧ i ≤ xs.length)⟩
theorem sep_of {z TI TO i1 i2 a b : Addr} (D : ZipApart z TI TO i1 i2 a b) : ZipSep2 z TI TO i1 i2 [i1, a] [i2, b] := by
  refine ⟨D.TIz, D.TOz, D.TITO, D.TIi1, by simp, ?_, ?_, D.TIi2, by simp, ?_, ?_, ?_, ?_⟩
  · simp [D.i1z.symm, D.l1z.symm]
  · simp [D.TOi1, D.l1TO.symm]
  · simp [D.i2z.symm, D.l2z.symm]
  · simp [D.TOi2, D.l2TO.symm]
  · simp [D.i12, D.l2i1.symm]
  · simp [D.i12.symm, D.l1i2.symm]
theorem turn_zipM {P : Program} {w : World} {K : PySem.W.Frag} {elts : List Expr} {kk : Nat} {tpos : Pos} {a b z TI TO i1 i2 : Addr} (D : ZipApart z TI TO i1 i2 a b) :
    Turn P w K (.Tuple elts kk tpos) (ItzM K a b) [z, TI, TO, i1, i2] z
      (fun i h => IsZip h z TI TO .none ∧ PySem.IsPair h TI (.ref i1) (.ref i2) ∧ (∃ x y, PySem.IsPair h TO x y) ∧ h.IsListIter i1 a i ∧ h.IsTupleIter i2 b i) where
  mem := by simp
  obj := by
    rintro i h ⟨hz, hTI, ⟨x, y, hTO⟩, ⟨o1, e1, _, d1⟩, ⟨o2, e2, _, d2⟩⟩ c hc
    have e' : c = z ∨ c = TI ∨ c = TO ∨ c = i1 ∨ c = i2 := by simpa using hc
    rcases e' with rfl | rfl | rfl | rfl | rfl
    · exact ⟨_, hz, fun v q => nomatch q⟩
    · exact ⟨_, hTI, fun v q => nomatch q⟩
    · exact ⟨_, hTO, fun v q => nomatch q⟩
    · exact ⟨o1, e1, fun v q => by rw [d1] at q; exact nomatch q⟩
    · exact ⟨o2, e2, fun v q => by rw [d2] at q; exact nomatch q⟩
  keep := by
    rintro i h h' ⟨hz, hTI, ⟨x, y, hTO⟩, q1, q2⟩ k
    exact ⟨k z (by simp) _ hz, k TI (by simp) _ hTI, ⟨x, y, k TO (by simp) _ hTO⟩, q1.at (fun o q => k i1 (by simp) o q), q2.at (fun o q => k i2 (by simp) o q)⟩
  item := by
    intro X hP hw hK hc i pins s σ H E I hf st hg
    subst hP hw hK
    obtain ⟨hz, hTI, ⟨x0, y0, hTO⟩, q1, q2⟩ := st
    obtain ⟨xs, ys, x, y, hqx, hqy, hx, hy⟩ := hg
    obtain ⟨its, rv, pl, _⟩ := I.list hqx
    obtain ⟨jts, rv2, tp, _⟩ := I.tuple hqy
    obtain ⟨u, hu, ru⟩ := rv.get hx
    obtain ⟨u2, hu2, ru2⟩ := rv2.get hy
    have hzl : z < s.heap.objs.size := Heap.lt_size hz
    have s1 : i < its.toArray.size := by
      rw [List.size_toArray]
      exact (List.getElem?_eq_some_iff.mp hu).1
    have s2 : i < jts.toArray.size := by
      rw [List.size_toArray]
      exact (List.getElem?_eq_some_iff.mp hu2).1
    have tp' : s.heap.IsTuple b jts.toArray := tp
    refine wpAny_pyNext_zipD2_item (sep_of D) (Draws.list (A := X.A.in1) (I.ok.hd hc) i1 a D.l1i1 its.toArray) (Draws.tuple (A := X.A.in1) (I.ok.hd hc) i2 b D.l2i2 jts.toArray)
      hz hTI hTO ⟨q1, pl.isList⟩ ⟨q2, tp'⟩ s1 s2 ?_
    intro v1 v2 h' tk e1 e2 hz' hTO' st1 st2 hT hsz hk
    have e1 : its.toArray[i]? = some v1 := e1
    have e2 : jts.toArray[i]? = some v2 := e2
    rw [List.getElem?_toArray, hu] at e1
    rw [List.getElem?_toArray, hu2] at e2
    injection e1 with e1
    injection e2 with e2
    subst e1
    subst e2
    refine ⟨_, rfl, wpAny_letOwnedTupleGo_zip (s := { s with heap := h', toks := tk }) hz' ?_⟩
    intro h'' hz'' sb
    have T2 : h''.get? s.heap.objs.size = some { cls := .type "tuple", data := .seq #[u, u2] } := (sb.2 _ (Nat.ne_of_gt hzl)).trans hT
    have new : ObjOk X.prog X.w (upd H s.heap.objs.size (.tup [x, y])) h'' s.heap.objs.size (.tup [x, y]) :=
      ⟨by show 2 ≤ sizeLine; decide, [u, u2], .cons ru (.cons ru2 .nil), ⟨_, T2, rfl, _, rfl⟩⟩
    have I1 : Inv X pins σ (upd H s.heap.objs.size (.tup [x, y])) { s with heap := h'', toks := tk } := by
      refine I.turnedNew (ch := [z, TI, TO, i1, i2]) ?_ hf (Nat.le_refl _) new
      intro c o hb q
      have c1 : c ≠ z := fun e => hb (by simp [e])
      have c2 : c ≠ TO := fun e => hb (by simp [e])
      have c3 : c ≠ i1 := fun e => hb (by simp [e])
      have c4 : c ≠ i2 := fun e => hb (by simp [e])
      exact (sb.2 c c1).trans (hk c o c1 c2 c3 c4 q)
    refine ⟨.ref s.heap.objs.size, _, I1, rfl, ⟨_, x, y, rfl, I.hok.fresh (Nat.le_refl _), rfl, ?_, ?_⟩, ⟨hz'', ?_, ⟨u, u2, ?_⟩, ?_, ?_⟩, ?_⟩
    · intro l hl
      rw [I.list_inj hl hqx]
      exact hx
    · intro l hl
      rw [I.tuple_inj hl hqy]
      exact hy
    · exact (sb.2 _ D.TIz).trans (hk _ _ D.TIz D.TITO D.TIi1 D.TIi2 hTI)
    · exact (sb.2 _ D.TOz).trans hTO'
    · exact st1.1.at fun o q => (sb.2 _ D.i1z).trans q
    · exact st2.1.at fun o q => (sb.2 _ D.i2z).trans q
    · intro c hcm
      obtain ⟨o1, g1, _⟩ := q1
      obtain ⟨o2, g2, _⟩ := q2
      have lt : c < s.heap.objs.size := by
        have e' : c = z ∨ c = TI ∨ c = TO ∨ c = i1 ∨ c = i2 := by simpa using hcm
        rcases e' with rfl | rfl | rfl | rfl | rfl
        · exact hzl
        · exact Heap.lt_size hTI
        · exact Heap.lt_size hTO
        · exact Heap.lt_size g1
        · exact Heap.lt_size g2
      rw [upd_ne (Nat.ne_of_lt lt)]
      exact (hf c hcm).1
  done := by
    intro X hP hw hK hc i pins s σ H E I hf st hg
    subst hP hw hK
    obtain ⟨hz, hTI, ⟨x0, y0, hTO⟩, q1, q2⟩ := st
    obtain ⟨xs, ys, hqx, hqy, hend⟩ := hg
    obtain ⟨its, rv, pl, _⟩ := I.list hqx
    obtain ⟨jts, rv2, tp, _⟩ := I.tuple hqy
    have l1 := rv.length
    have l2 := rv2.length
    have tp' : s.heap.IsTuple b jts.toArray := tp
    refine wpAny_pyNext_zipD2_end (i := i) (sep_of D) (Draws.list (A := X.A.in1) (I.ok.hd hc) i1 a D.l1i1 its.toArray) (Draws.tuple (A := X.A.in1) (I.ok.hd hc) i2 b D.l2i2 jts.toArray)
      hz hTI hTO ⟨q1, pl.isList⟩ ⟨q2, tp'⟩ ?_ ?_ ?_ ?_
    · rw [List.size_toArray]; omega
    · rw [List.size_toArray]; omega
    · rw [List.size_toArray, List.size_toArray]; omega
    · intro h' tk hk
      refine ⟨rfl, I.turnedL (t' := tk) (ch := [z, TI, TO, i1, i2]) ?_ hf⟩
      intro c o hb q
      exact hk c o (fun e => hb (by simp [e])) (fun e => hb (by simp [e])) (fun e => hb (by simp [e])) (fun e => hb (by simp [e])) q
  self := fun A i s Q E st h => wpAny_pyIter_zip st.1 h
def iZipM (K : PySem.W.Frag) (ta : TA) : TI := fun σ H R => ta σ H fun vs H1 => ∃ a b xs ys, vs = [.ref a, .ref b] ∧ SqL K H1 a xs ∧ SqT K H1 b ys ∧ R (ItzM K a b) H1
theorem pi_zipM {X : Cx} {e e2 : Expr} {ta : TA} {p pos tpos : Pos} {elts : List Expr} {kk : Nat} (hg : Gl X "zip") (hm : X.mg "zip" = none) (ha : PA X [e, e2] ta)
    (hs : starEach [e, e2] X.env = (false, eval e X.env) :: starEach [e2] X.env := by rfl) (hpl : (backTo pos (starEach [e2] X.env)).any (·.1) = false := by rfl) :
    PI X (.Tuple elts kk tpos) (.Call (.Name "zip" p) [e, e2] [] pos) (iZipM X.K ta) := by
  constructor
  intro pins s σ H R I h
  have go := ha.run pos pins s σ H _ I h
  refine Call_ (ld_blt I hg hm PyProof.Rows.boot_zip (PyProof.Rows.callWith_type1 (thn go ?_) hs hpl))
  rintro us s1 ⟨vs, H1, I1, r1, a, b, xs, ys, rfl, hqx, hqy, q⟩
  obtain ⟨u1, u2, rfl, r, r'⟩ := vals2 r1
  cases r
  cases r'
  obtain ⟨its, rv, pl, _⟩ := I1.list hqx
  obtain ⟨jts, rv2, tp, _⟩ := I1.tuple hqy
  have tp' : s1.heap.IsTuple b jts.toArray := tp
  have la : a < s1.heap.objs.size := pl.lt
  have lb : b < s1.heap.objs.size := by
    obtain ⟨_, g, _⟩ := tp
    exact Heap.lt_size g
  refine call_zipM pl.isList tp' ?_
  intro h' hz hTI hTO q1 q2 hk
  refine wpAny_pyIter_zip hz ?_
  have I2 : Inv X pins σ H1 { s1 with heap := h' } := I1.kept (t' := s1.toks) hk
  refine ⟨s1.heap.objs.size + 4, [s1.heap.objs.size + 4, s1.heap.objs.size + 2, s1.heap.objs.size + 3, s1.heap.objs.size, s1.heap.objs.size + 1], _, _, H1, rfl, I2,
    turn_zipM (PySem.W.ktu_apart s1.heap.objs.size a b la lb), ⟨hz, hTI, ⟨_, _, hTO⟩, q1, q2⟩, ?_, q⟩
  intro c hcm
  have hle : s1.heap.objs.size ≤ c := by
    have e' : c = s1.heap.objs.size + 4 ∨ c = s1.heap.objs.size + 2 ∨ c = s1.heap.objs.size + 3 ∨ c = s1.heap.objs.size ∨ c = s1.heap.objs.size + 1 := by simpa using hcm
    rcases e' with e | e | e | e | e <;> rw [e]
    · exact Nat.le_add_right _ 4
    · exact Nat.le_add_right _ 2
    · exact Nat.le_add_right _ 3
    · exact Nat.le_refl _
    · exact Nat.le_add_right _ 1
  exact I1.fpOk hle (I1.hok.fresh hle)
theorem walk_zipM {K : PySem.W.Frag} {a b : Addr} {xs ys : List V} {n : Nat} (hn : n = min xs.length ys.length) :
    Walk (ItzM K a b) n (fun H => SqL K H a xs ∧ SqT K H b ys) (YPair (fun i => xs[i]?) (fun i => ys[i]?)) := by
  subst hn
  constructor
  · rintro i H hi ⟨q1, q2⟩
    have h1 : i < xs.length := by omega
    have h2 : i < ys.length := by omega
    exact ⟨xs, ys, xs[i], ys[i], q1, q2, by simp [h1], by simp [h2]⟩
  · rintro H ⟨q1, q2⟩
    exact ⟨xs, ys, q1, q2, by omega⟩
  · rintro i H v H' _ ⟨q1, q2⟩ ⟨T, x, y, h1, h2, h3, h4, h5⟩
    exact ⟨T, x, y, h1, h2, h3, h4 xs q1, h5 ys q2⟩
/-- zip of two tuples -/
theorem walk_zipT {K : PySem.W.Frag} {a b : Addr} {xs ys : List V} {n : Nat} (hn : n = min xs.length ys.length) :
    Walk (RZ.ItzT K a b) n (fun H => SqT K H a xs ∧ SqT K H b ys) (YPair (fun i => xs[i]?) (fun i => ys[i]?)) := by
  subst hn
  constructor
  · rintro i H hi ⟨q1, q2⟩
    have h1 : i < xs.length := by omega
    have h2 : i < ys.length := by omega
    exact ⟨xs, ys, xs[i], ys[i], q1, q2, by simp [h1], by simp [h2]⟩
  · rintro H ⟨q1, q2⟩
    exact ⟨xs, ys, q1, q2, by omega⟩
  · rintro i H v H' _ ⟨q1, q2⟩ ⟨T, x, y, h1, h2, h3, h4, h5⟩
    exact ⟨T, x, y, h1, h2, h3, h4 xs q1, h5 ys q2⟩
end WK
set_option Elab.async false
set_option linter.all false
set_option maxRecDepth 100000
namespace WK
open PySem PySem.Spec PyProof.Rows L2
structure Blt (mg : Str → Option Value) : Prop where
  int : mg "int" = none
  abs : mg "abs" = none
  len : mg "len" = none
  max : mg "max" = none
  min : mg "min" = none
  tuple : mg "tuple" = none
  range : mg "range" = none
  zip : mg "zip" = none
  enumerate : mg "enumerate" = none
  repr : mg "repr" = none
  sum : mg "sum" = none
  all : mg "all" = none
  any : mg "any" = none
  sorted : mg "sorted" = none
  list : mg "list" = none
/-! ### tuples stay -/
def Tups (H H' : Hp) : Prop := ∀ b xs, H b = some (.tup xs) → H' b = some (.tup xs)
theorem Tups.refl (H : Hp) : Tups H H := fun _ _ h => h
theorem Tups.trans {H H1 H2 : Hp} (a : Tups H H1) (b : Tups H1 H2) : Tups H H2 := fun x xs h => b x xs (a x xs h)
theorem Same.tups {H H' : Hp} (s : Same H H') : Tups H H' := fun b xs h => s b _ h
theorem Off.tups {H H' : Hp} {p c : Addr} (o : Off p c H H') (S : Src H p c) : Tups H H' := fun b xs h => o.tup S h
theorem tups_upd {H : Hp} {a : Addr} {xs : List V} {o : HO} (h : H a = some (.lst xs)) : Tups H (upd H a o) := fun b ys e => by
  rw [upd_ne (ne_of e h (by intro z; cases z))]
  exact e
/-! ### slots -/
structure Slt where
  need : Int
  most : Int
  first : Int
  slopes : List Int
def SltAt (H : Hp) (v : V) (s : Slt) : Prop := ∃ t u, v = .ref t ∧ H t = some (.tup [.int s.need, .int s.most, .int s.first, .ref u]) ∧ H u = some (.tup (s.slopes.map V.int))
theorem SltAt.mono {H H' : Hp} {v : V} {s : Slt} (k : Tups H H') (h : SltAt H v s) : SltAt H' v s := by
  obtain ⟨t, u, e, a, b⟩ := h
  exact ⟨t, u, e, k _ _ a, k _ _ b⟩
abbrev SltsAt (H : Hp) : List V → List Slt → Prop := Paired (SltAt H)
theorem SltsAt.mono {H H' : Hp} (k : Tups H H') : ∀ {vs : List V} {ss : List Slt}, SltsAt H vs ss → SltsAt H' vs ss
  | _, _, .nil => .nil
  | _, _, .cons a b => .cons (a.mono k) (SltsAt.mono k b)
theorem SltsAt.len {H : Hp} : ∀ {vs : List V} {ss : List Slt}, SltsAt H vs ss → vs.length = ss.length
  | _, _, .nil => rfl
  | _, _, .cons _ b => congrArg (· + 1) (SltsAt.len b)
theorem SltsAt.snoc {H : Hp} : ∀ {vs : List V} {ss : List Slt} {v : V} {s : Slt}, SltsAt H vs ss → SltAt H v s → SltsAt H (vs ++ [v]) (ss ++ [s])
  | _, _, _, _, .nil, h => .cons h .nil
  | _, _, _, _, .cons a b, h => .cons a (SltsAt.snoc b h)
theorem SltsAt.get {H : Hp} : ∀ {vs : List V} {ss : List Slt} {i : Nat} {v : V}, SltsAt H vs ss → vs[i]? = some v → ∃ s, ss[i]? = some s ∧ SltAt H v s
  | _, _, _, _, .nil, e => by simp at e
  | _, _, 0, v, .cons a _, e => by
    have e : _ = v := Option.some.inj e
    subst e
    exact ⟨_, rfl, a⟩
  | _, _, i + 1, v, .cons _ b, e => SltsAt.get (i := i) b e
/-- a slot of the document, within bounds: m its greatest number, b how steep, f its first cost's bound -/
structure Slt.Ok (s : Slt) (m b f : Int) : Prop where
  lo : 0 ≤ s.need
  mid : s.need ≤ s.most
  hi : s.most ≤ m
  len : (s.slopes.length : Int) = s.most - s.need
  steep : ∀ z ∈ s.slopes, -b ≤ z ∧ z ≤ b
  asc : s.slopes.Pairwise (· ≤ ·)
  pos : ∀ k, 0 ≤ s.first + (s.slopes.take k).sum
  fst : s.first ≤ f
def costAt (s : Slt) (x : Int) : Int := s.first + (s.slopes.take (x - s.need).toNat).sum
theorem sum_bounds {b : Int} : ∀ {l : List Int}, (∀ z ∈ l, -b ≤ z ∧ z ≤ b) → -(b * l.length) ≤ l.sum ∧ l.sum ≤ b * l.length
  | [], _ => by simp
  | z :: l, h => by
    have h1 := h z (List.mem_cons_self ..)
    have h2 := sum_bounds (l := l) fun y hy => h y (List.mem_cons_of_mem _ hy)
    rw [List.sum_cons, List.length_cons, Int.natCast_add, Int.mul_add]
    omega
/-- the sums of the first ones -/
def sumsL (l : List Int) (i : Nat) : List Int := (List.range i).map fun k => (l.take (k + 1)).sum
theorem sumsL_succ {l : List Int} {i : Nat} : sumsL l (i + 1) = sumsL l i ++ [(l.take (i + 1)).sum] := by
  unfold sumsL
  rw [List.range_succ, List.map_append]
  rfl
theorem sumsL_len {l : List Int} {i : Nat} : (sumsL l i).length = i := by
  unfold sumsL
  rw [List.length_map, List.length_range]
theorem low_le {l : List Int} {m : Int} (h : ∀ y ∈ (0 :: sumsL l l.length), m ≤ y) (k : Nat) : m ≤ (l.take k).sum := by
  have h0 : m ≤ 0 := h 0 (List.mem_cons_self ..)
  have step : ∀ j, j < l.length → m ≤ (l.take (j + 1)).sum := fun j hj =>
    h _ (List.mem_cons_of_mem _ (List.mem_map.mpr ⟨j, List.mem_range.mpr hj, rfl⟩))
  by_cases hk : k ≤ l.length
  · cases k with
    | zero => simpa using h0
    | succ j => exact step j (by omega)
  · rw [List.take_of_length_le (by omega)]
    by_cases hz : l.length = 0
    · have : l = [] := List.length_eq_zero_iff.mp hz
      subst this
      simpa using h0
    · have := step (l.length - 1) (by omega)
      rw [show l.length - 1 + 1 = l.length by omega, List.take_length] at this
      exact this
theorem low_ge {l : List Int} {m b : Int} (hb : 0 ≤ b) (hl : ∀ z ∈ l, -b ≤ z ∧ z ≤ b) (h : m ∈ (0 :: sumsL l l.length)) : -(b * l.length) ≤ m := by
  rcases List.mem_cons.mp h with e | e
  · subst e
    have : 0 ≤ b * (l.length : Int) := Int.mul_nonneg hb (Int.natCast_nonneg _)
    omega
  · obtain ⟨k, hk, rfl⟩ := List.mem_map.mp e
    have hk := List.mem_range.mp hk
    have s := sum_bounds (l := l.take (k + 1)) (b := b) fun z hz => hl z (List.mem_of_mem_take hz)
    rw [List.length_take, Nat.min_eq_left (by omega)] at s
    have le : b * ((k + 1 : Nat) : Int) ≤ b * (l.length : Int) := Int.mul_le_mul_of_nonneg_left (by omega) hb
    omega
def spSlots : Sp := fun vs H Q _ => ∃ (p c : Addr) (ticks : Nat) (most : Int), vs = [.ref p, .int ticks, .int most] ∧ Src H p c ∧ ticks ≤ 1000 ∧ 0 ≤ most ∧ most ≤ 1000 ∧
  ∀ (H' : Hp) (t : Addr) (ws : List V) (ss : List Slt), Src H' p c → Off p c H H' → H' t = some (.tup ws) → H t = none → SltsAt H' ws ss → ss.length = ticks → (∀ s ∈ ss, s.Ok most 8 (3 + 8 * most)) → Q (.ref t) H'
def spGreat : Sp := fun vs H Q _ => ∃ (p c : Addr) (ticks : Nat) (most : Int), vs = [.ref p, .int ticks, .int most] ∧ Src H p c ∧ ticks ≤ 1000 ∧ 0 ≤ most ∧ most ≤ 1000 ∧
  ∀ (H' : Hp) (t : Addr) (ws : List V) (ss : List Slt), Src H' p c → Off p c H H' → H' t = some (.tup ws) → H t = none → SltsAt H' ws ss → ss.length = ticks →
    (∀ s ∈ ss, s.Ok 1000000 80000000000 (10000000000 * (3 + 8 * most)) ∧ s.most - s.need ≤ most) → Q (.ref t) H'
theorem mul_sum {b : Int} : ∀ {l : List Int}, (l.map (· * b)).sum = l.sum * b
  | [] => by simp
  | z :: l => by
    rw [List.map_cons, List.sum_cons, List.sum_cons, mul_sum, Int.add_mul]
theorem Slt.Ok.great {s : Slt} {m f far by1 : Int} (h : s.Ok m 8 f) (h0 : 0 ≤ far) (hf : far + m ≤ 1000000) (b1 : 1 ≤ by1) (b2 : by1 ≤ 10000000000) (f0 : 0 ≤ f) :
    Slt.Ok ⟨s.need + far, s.most + far, s.first * by1, s.slopes.map (· * by1)⟩ 1000000 80000000000 (10000000000 * f) := by
  constructor
  · show 0 ≤ s.need + far
    have := h.lo
    omega
  · show s.need + far ≤ s.most + far
    have := h.mid
    omega
  · show s.most + far ≤ 1000000
    have := h.hi
    omega
  · show ((s.slopes.map (· * by1)).length : Int) = s.most + far - (s.need + far)
    rw [List.length_map, h.len]
    omega
  · intro z hz
    obtain ⟨y, hy, rfl⟩ := List.mem_map.mp hz
    obtain ⟨a, b⟩ := h.steep y hy
    show -80000000000 ≤ y * by1 ∧ y * by1 ≤ 80000000000
    have u : y * by1 ≤ 8 * by1 := Int.mul_le_mul_of_nonneg_right b (by omega)
    have l : -8 * by1 ≤ y * by1 := Int.mul_le_mul_of_nonneg_right a (by omega)
    omega
  · show (s.slopes.map (· * by1)).Pairwise (· ≤ ·)
    rw [List.pairwise_map]
    exact h.asc.imp fun {a b} z => Int.mul_le_mul_of_nonneg_right z (by omega)
  · intro k
    show 0 ≤ s.first * by1 + ((s.slopes.map (· * by1)).take k).sum
    rw [← List.map_take, mul_sum, ← Int.add_mul]
    exact Int.mul_nonneg (h.pos k) (by omega)
  · show s.first * by1 ≤ 10000000000 * f
    have p0 : 0 ≤ s.first := by simpa using h.pos 0
    have a : s.first * by1 ≤ f * by1 := Int.mul_le_mul_of_nonneg_right h.fst (by omega)
    have b : f * by1 ≤ f * 10000000000 := Int.mul_le_mul_of_nonneg_left b2 f0
    omega
end WK
set_option Elab.async false
set_option linter.all false
set_option maxRecDepth 100000
namespace WK
open PySem PySem.Spec PyProof.Rows L2
theorem slA {K : PySem.W.Frag} {lo hi : Option Int} {H : Hp} {Q : VK} {a : Addr} {xs : List V} (ht : H a = some (.tup xs))
    (k : ∀ p H', Same H H' → H' p = some (.tup (cutV xs lo hi)) → Q (.ref p) H') : rSlA K (.ref a) lo hi H Q := by
  refine ⟨a, xs, rfl, .inl (.inl ht), fun w => k a H (Same.refl _) ?_, fun _ p np => k p _ (same_new np) upd_same⟩
  rw [ht]
  unfold cutV
  rw [w.1, w.2, List.drop_zero, Nat.sub_zero, List.take_length]
theorem cut_int {xs : List V} {z : Int} (h : 0 ≤ z) : cutV xs none (some z) = xs.take z.toNat := by
  obtain ⟨n, rfl⟩ := Int.eq_ofNat_of_zero_le h
  rw [Int.toNat_natCast]
  exact cut_take
theorem cut_drop {xs : List V} {n : Nat} : cutV xs (some (n : Int)) none = xs.drop n := by
  unfold cutV
  rw [HT.sIx_nat, HT.sIx_none]
  by_cases h : n ≤ xs.length
  · rw [Nat.min_eq_left h, List.take_of_length_le (by rw [List.length_drop]; exact Nat.le_refl _)]
  · rw [Nat.min_eq_right (by omega), List.drop_of_length_le (by omega), List.drop_of_length_le (by omega), List.take_nil]
/-! ### rows of slots -/
def fitB (s : Slt) (x : Int) : Bool := decide (s.need ≤ x) && decide (x ≤ s.most)
def costV (s : Slt) (x : Int) : V := if fitB s x = true then .int (costAt s x) else .non
def s0 : Slt := ⟨0, 0, 0, []⟩
def servesB (ss : List Slt) (xs : List Int) (i : Nat) : List Bool := (List.range i).map fun t => fitB (ss.getD t s0) (xs.getD t 0)
def up (d : Int) : Int := if d > 0 then d else 0
def startsT (xs : List Int) (i : Nat) : List Int := (List.range i).map fun t => up (xs.getD t 0 - (0 :: xs).getD t 0)
def stopsT (xs : List Int) (i : Nat) : List Int := (List.range i).map fun t => up ((0 :: xs).getD t 0 - xs.getD t 0)
def runT (ss : List Slt) (xs : List Int) (i : Nat) : List Int := (List.range i).map fun t => costAt (ss.getD t s0) (xs.getD t 0)
def servesL (ss : List Slt) (xs : List Int) : Bool := (servesB ss xs xs.length).all id
def startsL (xs : List Int) : Int := (startsT xs xs.length).sum
def stopsL (xs : List Int) : Int := (stopsT xs xs.length).sum
def runL (ss : List Slt) (xs : List Int) : Int := (runT ss xs xs.length).sum
theorem mapr_succ {α : Type} {f : Nat → α} {i : Nat} : (List.range (i + 1)).map f = (List.range i).map f ++ [f i] := by
  rw [List.range_succ, List.map_append]
  rfl
theorem getD_at {α : Type} {l : List α} {i : Nat} {x d : α} (h : l[i]? = some x) : l.getD i d = x := by
  rw [List.getD_eq_getElem?_getD, h]
  rfl
theorem mapr_len {α : Type} {f : Nat → α} {i : Nat} : ((List.range i).map f).length = i := by
  rw [List.length_map, List.length_range]
def spCost : Sp := fun vs H Q _ => ∃ (t : V) (x : Int) (s : Slt), vs = [t, .int x] ∧ SltAt H t s ∧ ∀ H', Same H H' → Q (costV s x) H'
def spServes : Sp := fun vs H Q _ => ∃ (a b : Addr) (ws : List V) (ss : List Slt) (xs : List Int), vs = [.ref a, .ref b] ∧ H a = some (.tup ws) ∧ SltsAt H ws ss ∧ H b = some (.tup (xs.map V.int)) ∧ xs.length = ss.length ∧ xs.length ≤ 5000 ∧
  ∀ H', Same H H' → Q (.bl (servesL ss xs)) H'
def spStarts : Sp := fun vs H Q _ => ∃ (b : Addr) (xs : List Int), vs = [.ref b] ∧ H b = some (.tup (xs.map V.int)) ∧ xs.length ≤ 5000 ∧ ∀ H', Same H H' → Q (.int (startsL xs)) H'
def spStops : Sp := fun vs H Q _ => ∃ (b : Addr) (xs : List Int), vs = [.ref b] ∧ H b = some (.tup (xs.map V.int)) ∧ xs.length ≤ 5000 ∧ ∀ H', Same H H' → Q (.int (stopsL xs)) H'
def spRunning : Sp := fun vs H Q _ => ∃ (a b : Addr) (ws : List V) (ss : List Slt) (xs : List Int), vs = [.ref a, .ref b] ∧ H a = some (.tup ws) ∧ SltsAt H ws ss ∧ H b = some (.tup (xs.map V.int)) ∧ xs.length = ss.length ∧ xs.length ≤ 5000 ∧
  ∀ H', Same H H' → Q (if servesL ss xs = true then .int (runL ss xs) else .non) H'
def spRowCost : Sp := fun vs H Q _ => ∃ (a b : Addr) (B : Int) (ws : List V) (ss : List Slt) (xs : List Int), vs = [.ref a, .int B, .ref b] ∧ -(2 ^ 64) < B ∧ B < 2 ^ 64 ∧ H a = some (.tup ws) ∧ SltsAt H ws ss ∧ H b = some (.tup (xs.map V.int)) ∧ xs.length = ss.length ∧ xs.length ≤ 5000 ∧
  ∀ H', Same H H' → Q (if servesL ss xs = true then .int (runL ss xs + B * startsL xs) else .non) H'
/-- what is served is served at each tick -/
theorem serves_at {ss : List Slt} {xs : List Int} (h : servesL ss xs = true) {i : Nat} {s : Slt} {x : Int} (hs : ss[i]? = some s) (hx : xs[i]? = some x) : fitB s x = true := by
  have hi : i < xs.length := (List.getElem?_eq_some_iff.mp hx).1
  have hm : fitB s x ∈ servesB ss xs xs.length := by
    refine List.mem_map.mpr ⟨i, List.mem_range.mpr hi, ?_⟩
    rw [getD_at hs, getD_at hx]
  exact List.all_eq_true.mp h _ hm
end WK
set_option Elab.async false
set_option linter.all false
set_option maxRecDepth 100000
namespace WK
open PySem PySem.Spec PyProof.Rows L2
/-! ### the costs of slots, told in dicts -/
def costK (s : Slt) (n : Nat) : List (Key × V) := (List.range n).map fun (k : Nat) => (Sum.inl (s.need + k), V.int (s.first + (s.slopes.take k).sum))
theorem costK_succ {s : Slt} {n : Nat} : costK s (n + 1) = costK s n ++ [(Sum.inl (s.need + n), V.int (s.first + (s.slopes.take n).sum))] := by
  unfold costK
  rw [mapr_succ]
theorem costK_val {s : Slt} : ∀ {n : Nat} {z : Int}, valV (costK s n) (.inl z) = if s.need ≤ z ∧ z < s.need + n then some (.int (s.first + (s.slopes.take (z - s.need).toNat).sum)) else none
  | 0, z => by
    rw [if_neg (by omega)]
    rfl
  | n + 1, z => by
    have h0 : valV (costK s n) (Sum.inl (s.need + n) : Key) = none := by
      rw [costK_val, if_neg (by omega)]
    rw [costK_succ, valV_snoc _ _ _ _ h0, costK_val]
    by_cases e : z = s.need + n
    · subst e
      rw [if_pos rfl, if_pos (by omega), show (s.need + (n : Int) - s.need).toNat = n by omega]
    · rw [if_neg (fun q => e (Sum.inl.inj q))]
      by_cases h : s.need ≤ z ∧ z < s.need + n
      · rw [if_pos h, if_pos (by omega)]
      · rw [if_neg h, if_neg (by omega)]
theorem costK_put {s : Slt} {n : Nat} : putK (costK s n) (.inl (s.need + n)) (.int (s.first + (s.slopes.take n).sum)) = costK s (n + 1) := by
  rw [putK_new _ (by rw [costK_val, if_neg (by omega)]), costK_succ]
theorem costK_len {s : Slt} {n : Nat} : (costK s n).length = n := mapr_len
def CostAt (H : Hp) (v : V) (s : Slt) : Prop := ∃ d, v = .ref d ∧ H d = some (.dK (costK s (s.slopes.length + 1)))
abbrev CostsAt (H : Hp) : List V → List Slt → Prop := Paired (CostAt H)
theorem CostsAt.mono {H H' : Hp} (k : ∀ b kvs, H b = some (.dK kvs) → H' b = some (.dK kvs)) : ∀ {vs : List V} {ss : List Slt}, CostsAt H vs ss → CostsAt H' vs ss
  | _, _, .nil => .nil
  | _, _, .cons a b => by
    obtain ⟨d, e, h⟩ := a
    exact .cons ⟨d, e, k _ _ h⟩ (CostsAt.mono k b)
theorem CostsAt.len {H : Hp} : ∀ {vs : List V} {ss : List Slt}, CostsAt H vs ss → vs.length = ss.length
  | _, _, .nil => rfl
  | _, _, .cons _ b => congrArg (· + 1) (CostsAt.len b)
theorem CostsAt.snoc {H : Hp} : ∀ {vs : List V} {ss : List Slt} {v : V} {s : Slt}, CostsAt H vs ss → CostAt H v s → CostsAt H (vs ++ [v]) (ss ++ [s])
  | _, _, _, _, .nil, h => .cons h .nil
  | _, _, _, _, .cons a b, h => .cons a (CostsAt.snoc b h)
theorem CostsAt.get {H : Hp} : ∀ {vs : List V} {ss : List Slt} {i : Nat} {v : V}, CostsAt H vs ss → vs[i]? = some v → ∃ s, ss[i]? = some s ∧ CostAt H v s
  | _, _, _, _, .nil, e => by simp at e
  | _, _, 0, v, .cons a _, e => by
    have e : _ = v := Option.some.inj e
    subst e
    exact ⟨_, rfl, a⟩
  | _, _, i + 1, v, .cons _ b, e => CostsAt.get (i := i) b e
theorem dks_upd {H : Hp} {a : Addr} {xs : List V} {o : HO} (h : H a = some (.lst xs)) : ∀ b kvs, H b = some (.dK kvs) → upd H a o b = some (.dK kvs) := fun b ys e => by
  rw [upd_ne (ne_of e h (by intro z; cases z))]
  exact e
theorem take_sum {l : List Int} {i : Nat} {z : Int} (h : l[i]? = some z) : (l.take (i + 1)).sum = (l.take i).sum + z := by
  rw [List.take_add_one, h, List.sum_append]
  simp
def spSlotCosts : Sp := fun vs H Q _ => ∃ (a : Addr) (ws : List V) (ss : List Slt), vs = [.ref a] ∧ H a = some (.tup ws) ∧ SltsAt H ws ss ∧ ss.length ≤ 5000 ∧ (∀ s ∈ ss, s.slopes.length ≤ 5000) ∧
  ∀ (H' : Hp) (l : Addr) (vs' : List V), Same H H' → H l = none → H' l = some (.lst vs') → CostsAt H' vs' ss → (∀ v ∈ vs', ∃ d, v = .ref d ∧ H d = none) → Q (.ref l) H'
theorem CostsAt.off {H H' : Hp} {p c : Addr} (o : Off p c H H') : ∀ {vs : List V} {ss : List Slt}, CostsAt H vs ss → (∀ v ∈ vs, ∃ d, v = .ref d ∧ d ≠ p ∧ d ≠ c) → CostsAt H' vs ss
  | _, _, .nil, _ => .nil
  | _, _, .cons a b, h => by
    obtain ⟨d, e, hd⟩ := a
    obtain ⟨d', e', n1, n2⟩ := h _ (List.mem_cons_self ..)
    rw [e] at e'
    injection e' with e'
    subst e'
    exact .cons ⟨d, e, o _ _ n1 n2 hd⟩ (CostsAt.off o b fun v hv => h v (List.mem_cons_of_mem _ hv))
def spSomeRow : Sp := fun vs H Q _ => ∃ (p c a : Addr) (ws : List V) (ss : List Slt), vs = [.ref p, .ref a] ∧ Src H p c ∧ H a = some (.tup ws) ∧ SltsAt H ws ss ∧ ss.length ≤ 5000 ∧ (∀ s ∈ ss, s.need ≤ s.most ∧ s.most - s.need ≤ 1000) ∧
  ∀ (H' : Hp) (t : Addr) (xs : List Int), Src H' p c → Off p c H H' → H t = none → H' t = some (.tup (xs.map V.int)) → xs.length = ss.length → (∀ (i : Nat) (s : Slt) (x : Int), ss[i]? = some s → xs[i]? = some x → s.need ≤ x ∧ x ≤ s.most) → Q (.ref t) H'
/-- what a price is -/
def priceD (ss : List Slt) (xs : List Int) (B : Int) : List Int := if servesL ss xs = true then [runL ss xs + B * startsL xs] else []
def spPrice : Sp := fun vs H Q _ => ∃ (l b : Addr) (B : Int) (us : List V) (ss : List Slt) (xs : List Int), vs = [.ref l, .ref b, .int B] ∧ -(2 ^ 64) < B ∧ B < 2 ^ 64 ∧ H l = some (.lst us) ∧ CostsAt H us ss ∧ (∀ s ∈ ss, (s.slopes.length : Int) = s.most - s.need ∧ s.need ≤ s.most) ∧ H b = some (.tup (xs.map V.int)) ∧ xs.length = ss.length ∧ xs.length ≤ 5000 ∧
  ∀ (H' : Hp) (t : Addr), Same H H' → H t = none → H' t = some (.lst ((priceD ss xs B).map V.int)) → Q (.ref t) H'
end WK
namespace WK
open PySem PySem.Spec PyProof.Rows L2
def badL (ss : List Slt) (xs : List Int) (i : Nat) : List Int := ((List.range i).filter fun t => !fitB (ss.getD t s0) (xs.getD t 0)).map fun (t : Nat) => (t : Int)
theorem badL_yes {ss : List Slt} {xs : List Int} {i : Nat} {s : Slt} {x : Int} (hs : ss[i]? = some s) (hx : xs[i]? = some x) (h : fitB s x = false) : badL ss xs (i + 1) = badL ss xs i ++ [(i : Int)] := by
  unfold badL
  rw [List.range_succ, List.filter_append, List.map_append, List.filter_cons, if_pos (by rw [getD_at hs, getD_at hx, h]; rfl)]
  rfl
theorem badL_no {ss : List Slt} {xs : List Int} {i : Nat} {s : Slt} {x : Int} (hs : ss[i]? = some s) (hx : xs[i]? = some x) (h : fitB s x = true) : badL ss xs (i + 1) = badL ss xs i := by
  unfold badL
  rw [List.range_succ, List.filter_append, List.map_append, List.filter_cons, if_neg (by rw [getD_at hs, getD_at hx, h]; simp)]
  simp
theorem badL_len {ss : List Slt} {xs : List Int} {i : Nat} : (badL ss xs i).length ≤ i := by
  unfold badL
  rw [List.length_map]
  refine Nat.le_trans (List.length_filter_le _ (List.range i)) ?_
  rw [List.length_range]
  exact Nat.le_refl _
theorem badL_iff {ss : List Slt} {xs : List Int} : badL ss xs xs.length = [] ↔ servesL ss xs = true := by
  unfold badL servesL servesB
  rw [List.map_eq_nil_iff, List.filter_eq_nil_iff, List.all_eq_true]
  constructor
  · intro h b hb
    obtain ⟨t, ht, rfl⟩ := List.mem_map.mp hb
    have := h t ht
    simpa using this
  · intro h t ht
    have := h _ (List.mem_map.mpr ⟨t, ht, rfl⟩)
    simpa using this
theorem cost_in {s : Slt} {x : Int} (hl : (s.slopes.length : Int) = s.most - s.need) : (valV (costK s (s.slopes.length + 1)) (.inl x)).isSome = fitB s x := by
  rw [costK_val]
  unfold fitB
  by_cases h : s.need ≤ x ∧ x ≤ s.most
  · rw [if_pos (by omega), decide_eq_true h.1, decide_eq_true h.2]
    rfl
  · rw [if_neg (by omega)]
    by_cases h1 : s.need ≤ x
    · rw [decide_eq_true h1, decide_eq_false (fun z => h ⟨h1, z⟩)]
      rfl
    · rw [decide_eq_false h1]
      rfl
theorem cost_of {s : Slt} {x : Int} (hl : (s.slopes.length : Int) = s.most - s.need) (h : fitB s x = true) : valV (costK s (s.slopes.length + 1)) (.inl x) = some (.int (costAt s x)) := by
  have h' : s.need ≤ x ∧ x ≤ s.most := by simpa [fitB] using h
  rw [costK_val, if_pos (by omega)]
  rfl
end WK
set_option Elab.async false
set_option linter.all false
set_option maxRecDepth 100000
namespace WK
open PySem PySem.Spec PyProof.Rows L2
theorem seq_R {t u : TS} {D : Ends} {σ : L2.St} {H : Hp} (R : L2.St → Hp → Prop) (key : ∀ σ H, R σ H → u D σ H) (h : ∀ D' : Ends, (∀ σ H, R σ H → D'.nx σ H) → t D' σ H) : tSeq t u D σ H := h _ key
theorem catA {K : PySem.W.Frag} {H : Hp} {Q : VK} {a b : Addr} {xs ys : List V} (ha : H a = some (.tup xs)) (hb : H b = some (.tup ys)) (hl : xs.length + ys.length ≤ sizeLine)
    (k : ∀ p H', Same H H' → H' p = some (.tup (xs ++ ys)) → Q (.ref p) H') : rCatA K (.ref a) (.ref b) H Q := by
  refine ⟨a, b, xs, ys, rfl, rfl, .inl (.inl ha), .inl (.inl hb), hl, fun e => ?_, fun _ e => ?_, fun _ _ p np => k p _ (same_new np) upd_same⟩
  · subst e
    exact k b H (Same.refl _) hb
  · subst e
    refine k a H (Same.refl _) ?_
    rw [List.append_nil]
    exact ha
def within (m : Int) (xs : List Int) : Prop := ∀ x ∈ xs, -m ≤ x ∧ x ≤ m
theorem within_getD {m : Int} {xs : List Int} (h : within m xs) (h0 : 0 ≤ m) (i : Nat) : -m ≤ xs.getD i 0 ∧ xs.getD i 0 ≤ m := by
  rw [List.getD_eq_getElem?_getD]
  match e : xs[i]? with
  | none =>
    show -m ≤ 0 ∧ 0 ≤ m
    omega
  | some z => exact h z (List.mem_of_getElem? e)
theorem up_within {d m : Int} (h : -m ≤ d ∧ d ≤ m) : -m ≤ up d ∧ up d ≤ m := by
  unfold up
  split <;> omega
theorem startsL_b {m : Int} {xs : List Int} (h : within m xs) (h0 : 0 ≤ m) : -(2 * m * xs.length) ≤ startsL xs ∧ startsL xs ≤ 2 * m * xs.length := by
  have := sum_bounds (b := 2 * m) (l := startsT xs xs.length) (fun z hz => by
    obtain ⟨t, _, rfl⟩ := List.mem_map.mp hz
    have a := within_getD h h0 t
    have b := within_getD (m := m) (xs := 0 :: xs) (fun x hx => by
      rcases List.mem_cons.mp hx with e | e
      · rw [e]; omega
      · exact h x e) h0 t
    exact up_within (by omega))
  rw [show (startsT xs xs.length).length = xs.length from mapr_len] at this
  exact this
theorem stopsL_b {m : Int} {xs : List Int} (h : within m xs) (h0 : 0 ≤ m) : -(2 * m * xs.length) ≤ stopsL xs ∧ stopsL xs ≤ 2 * m * xs.length := by
  have := sum_bounds (b := 2 * m) (l := stopsT xs xs.length) (fun z hz => by
    obtain ⟨t, _, rfl⟩ := List.mem_map.mp hz
    have a := within_getD h h0 t
    have b := within_getD (m := m) (xs := 0 :: xs) (fun x hx => by
      rcases List.mem_cons.mp hx with e | e
      · rw [e]; omega
      · exact h x e) h0 t
    exact up_within (by omega))
  rw [show (stopsT xs xs.length).length = xs.length from mapr_len] at this
  exact this
theorem runL_b {B : Int} {ss : List Slt} {xs : List Int} (h : ∀ s ∈ ss, ∀ x, -B ≤ costAt s x ∧ costAt s x ≤ B) (hl : xs.length = ss.length) : -(B * xs.length) ≤ runL ss xs ∧ runL ss xs ≤ B * xs.length := by
  have := sum_bounds (b := B) (l := runT ss xs xs.length) (fun z hz => by
    obtain ⟨t, ht, rfl⟩ := List.mem_map.mp hz
    have ht : t < ss.length := by rw [← hl]; exact List.mem_range.mp ht
    rw [getD_at (List.getElem?_eq_getElem ht)]
    exact h _ (List.getElem_mem ht) _)
  rw [show (runT ss xs xs.length).length = xs.length from mapr_len] at this
  exact this
theorem cost_b {s : Slt} {m b f : Int} (h : s.Ok m b f) (hw : s.most - s.need ≤ 1000) (b0 : 0 ≤ b) (x : Int) : -(f + b * 1000) ≤ costAt s x ∧ costAt s x ≤ f + b * 1000 := by
  have p := h.pos (x - s.need).toNat
  have f1 := h.fst
  have sb := sum_bounds (b := b) (l := s.slopes.take (x - s.need).toNat) fun z hz => h.steep z (List.mem_of_mem_take hz)
  have ll : ((s.slopes.take (x - s.need).toNat).length : Int) ≤ 1000 := by
    rw [List.length_take]
    have := h.len
    omega
  have u : b * ((s.slopes.take (x - s.need).toNat).length : Int) ≤ b * 1000 := Int.mul_le_mul_of_nonneg_left ll b0
  have f0 : 0 ≤ f := by
    have := h.pos 0
    simp only [List.take_zero, List.sum_nil] at this
    omega
  have u0 : 0 ≤ b * 1000 := Int.mul_nonneg b0 (by decide)
  show -(f + b * 1000) ≤ s.first + _ ∧ s.first + _ ≤ f + b * 1000
  omega
/-- what is told of a row -/
def rowD (sv : Bool) (st sp run cost : Int) : PyData := .list [.bool sv, .int st, .int sp, if sv = true then .int run else .none, if sv = true then .int cost else .none]
theorem rowD_shows {sv : Bool} {st sp run cst : Int} (h1 : st.natAbs < 10 ^ 150) (h2 : sp.natAbs < 10 ^ 150) (h3 : run.natAbs < 10 ^ 150) (h4 : cst.natAbs < 10 ^ 150) : Shows (rowD sv st sp run cst) := by
  cases sv with
  | true =>
    refine shows_of ?_ ?_ ?_
    · simp only [rowD, Lil, LilAll, and_true, true_and, if_true]
      exact ⟨h1, h2, h3, h4⟩
    · simp [rowD, PyData.depth, PyData.depthAll]
    · simp only [rowD, WK.cost, costAll, if_true]
      decide
  | false =>
    refine shows_of ?_ ?_ ?_
    · simp only [rowD, Lil, LilAll, and_true, true_and, Bool.false_eq_true, if_false]
      exact ⟨h1, h2⟩
    · simp [rowD, PyData.depth, PyData.depthAll]
    · simp only [rowD, WK.cost, costAll, Bool.false_eq_true, if_false]
      decide
theorem cutset {k : Nat} {xs : List Int} {z : Int} (hk : k < xs.length) : (xs.take k ++ [z] ++ xs.drop (k + 1)).length = xs.length := by
  rw [List.length_append, List.length_append, List.length_take, List.length_drop, List.length_singleton]
  omega
theorem cutset_within {k : Nat} {xs : List Int} {z m m' : Int} (h : within m xs) (hm : m ≤ m') (hz : -m' ≤ z ∧ z ≤ m') : within m' (xs.take k ++ [z] ++ xs.drop (k + 1)) := by
  intro x hx
  rcases List.mem_append.mp hx with hx | hx
  · rcases List.mem_append.mp hx with hx | hx
    · have := h x (List.mem_of_mem_take hx)
      omega
    · rw [List.mem_singleton.mp hx]
      exact hz
  · have := h x (List.mem_of_mem_drop hx)
    omega
end WK
set_option Elab.async false
set_option linter.all false
set_option maxRecDepth 100000
set_option maxHeartbeats 4000000
namespace WK
open PySem PySem.Spec PyProof.Rows L2
/-! ### tuple * int, any number -/
theorem tuple_mul1 (l : Addr) (items : Array Value) (n : Nat) (dd : Option Addr) (sl : Array (Option Value)) (x : Int) (u : Tok) (c0 : (decide (x < -(2 ^ 63)) || decide (x ≥ 2 ^ 63)) = false) (c1 : (items.isEmpty || x == 1) = true) :
    Meets (Builtin.«tuple.__mul__» ⟨[.ref l, .int x u], []⟩) (fun _ R s => s.heap.get? l = some { cls := .type "tuple", dict := dd, data := .seq items n, slots := sl } ∧
      R (.ok (.ret (Value.ref l))) { s with heap := s.heap, toks := s.toks }) :=
  .of_wp fun prog w A R s h => by
    obtain ⟨hp, g, d, tk, os⟩ := s
    obtain ⟨hl, h⟩ := h
    have f1 := AutoSeq1.idx_int
    wp_walk using wpAny_loadPart' hl
    repeat (first
      | (refine wpAny_ite_false (decide_eq_false (by rw [c0]; exact Bool.false_ne_true)) ?_; wp_walk using wpAny_loadPart' hl)
      | (refine wpAny_ite_true (decide_eq_true c1) ?_; wp_walk using wpAny_loadPart' hl))
    exact ⟨_, rfl, h⟩
theorem tuple_mul0 (l : Addr) (items : Array Value) (n : Nat) (dd : Option Addr) (sl : Array (Option Value)) (x : Int) (u : Tok) (c0 : (decide (x < -(2 ^ 63)) || decide (x ≥ 2 ^ 63)) = false) (c1 : (items.isEmpty || x == 1) = false) (c2 : (decide (x ≤ 0) || items.isEmpty) = true) :
    Meets (Builtin.«tuple.__mul__» ⟨[.ref l, .int x u], []⟩) (fun _ R s => s.heap.get? l = some { cls := .type "tuple", dict := dd, data := .seq items n, slots := sl } ∧
      R (.ok (.ret (Value.ref s.heap.objs.size))) { s with heap := s.heap.push { cls := Value.type "tuple", data := Data.seq #[] }, toks := s.toks }) :=
  .of_wp fun prog w A R s h => by
    obtain ⟨hp, g, d, tk, os⟩ := s
    obtain ⟨hl, h⟩ := h
    have f1 := AutoSeq1.idx_int
    wp_walk using wpAny_loadPart' hl
    repeat (first
      | (refine wpAny_ite_false (decide_eq_false (by rw [c0]; exact Bool.false_ne_true)) ?_; wp_walk using wpAny_loadPart' hl)
      | (refine wpAny_ite_false (decide_eq_false (by rw [c1]; exact Bool.false_ne_true)) ?_; wp_walk using wpAny_loadPart' hl)
      | (refine wpAny_ite_true (decide_eq_true c2) ?_; wp_walk using wpAny_loadPart' hl))
    exact ⟨_, rfl, h⟩
def rRepA (K : PySem.W.Frag) : R2 := fun x y H Q => ∃ l k xs, x = .ref l ∧ y = .int k ∧ SqT K H l xs ∧ -(2 ^ 62) ≤ k ∧ k ≤ 1000 ∧ xs.length ≤ 1000 ∧ ((k = 1 ∨ xs = []) → Q (.ref l) H) ∧
  (¬ (k = 1 ∨ xs = []) → ∀ p, H p = none → Q (.ref p) (upd H p (.tup (List.replicate k.toNat xs).flatten)))
section
variable {X : Cx}
theorem op_repA : OpR X (binaryOp .Mult) (rRepA X.K) := by
  intro pins s σ H x y v u Q I rx ry h
  obtain ⟨l, k, xs, rfl, rfl, hT, h1, h2, hz, q1, q2⟩ := h
  by_cases hk : 2 ≤ k ∧ xs ≠ []
  · exact op_repT pins s σ H _ _ v u Q I rx ry ⟨l, k, xs, rfl, rfl, hT, hk.2, hk.1, h2, hz, q2 (fun e => by
      rcases e with e | e
      · omega
      · exact hk.2 e)⟩
  cases rx
  obtain ⟨t, rfl⟩ := ry
  obtain ⟨its, r, ⟨⟨cls, dd, data, sl⟩, ho, hc, n, hd⟩, hs⟩ := I.tuple hT
  simp only at hc hd
  subst hc hd
  have hle : its.length = xs.length := r.length.symm
  have c0 : (decide (k < -(2 ^ 63)) || decide (k ≥ 2 ^ 63)) = false := by
    rw [decide_eq_false (by omega), decide_eq_false (by omega)] <;> rfl
  by_cases e : k = 1 ∨ xs = []
  · have c1 : (its.toArray.isEmpty || k == 1) = true := by
      rcases e with e | e
      · rw [e, beq_self_eq_true, Bool.or_true]
      · rw [e] at hle
        rw [List.eq_nil_of_length_eq_zero hle]
        rfl
    exact wpAny_binaryOp_repeat_ref (T := "tuple") (U := "int") (by decide) ⟨_, ho, rfl⟩ (fun s' => typeIs_int s' k t) noFill_tuple_mul F.fills_int_mul F.slot_int_rmul repeat_tuple F.slot_int_index.lookup
      (call_meets F.slot_int_rmul (typeIs_int s k t) F.entry_int_rmul (F.args_int_rmul_2 _ _) (int_rmul_tuple k t l its.toArray n dd sl)
        ⟨ho, rfl, ⟨_, ho, rfl⟩, call_meets F.slot_tuple_mul ⟨_, ho, rfl⟩ F.entry_tuple_mul (F.args_tuple_mul_2 _ _) (tuple_mul1 l its.toArray n dd sl k t c0 c1) ⟨ho, ⟨.ref l, H, I, rfl, q1 e⟩⟩⟩)
  · have hne : xs ≠ [] := fun z => e (.inr z)
    have hk1 : k ≠ 1 := fun z => e (.inl z)
    have hk0 : k ≤ 0 := by
      by_cases z : 2 ≤ k
      · exact absurd ⟨z, hne⟩ hk
      · omega
    have hi : its.toArray.isEmpty = false := by
      cases its with
      | nil =>
        cases xs with
        | nil => exact absurd rfl hne
        | cons a b => cases hle
      | cons a b => rfl
    have c1 : (its.toArray.isEmpty || k == 1) = false := by
      rw [hi, Bool.false_or]
      exact beq_eq_false_iff_ne.mpr hk1
    have c2 : (decide (k ≤ 0) || its.toArray.isEmpty) = true := by
      rw [hi, Bool.or_false]
      exact decide_eq_true hk0
    refine wpAny_binaryOp_repeat_ref (T := "tuple") (U := "int") (by decide) ⟨_, ho, rfl⟩ (fun s' => typeIs_int s' k t) noFill_tuple_mul F.fills_int_mul F.slot_int_rmul repeat_tuple F.slot_int_index.lookup
      (call_meets F.slot_int_rmul (typeIs_int s k t) F.entry_int_rmul (F.args_int_rmul_2 _ _) (int_rmul_tuple k t l its.toArray n dd sl)
        ⟨ho, rfl, ⟨_, ho, rfl⟩, call_meets F.slot_tuple_mul ⟨_, ho, rfl⟩ F.entry_tuple_mul (F.args_tuple_mul_2 _ _) (tuple_mul0 l its.toArray n dd sl k t c0 c1 c2) ⟨ho, ?_⟩⟩)
    have e0 : (List.replicate k.toNat xs).flatten = [] := by
      rw [Int.toNat_of_nonpos hk0]
      rfl
    refine ⟨.ref s.heap.objs.size, _, I.laid (t' := s.toks) (o := .tup (List.replicate k.toNat xs).flatten) (fun b ob q => Heap.get?_push_of_some _ q) (Nat.le_refl _) ?_, rfl, q2 e _ (I.hok.fresh (Nat.le_refl _))⟩
    rw [e0]
    exact ⟨by show 0 ≤ sizeLine; decide, [], .nil, IsTup.new _ _⟩
end
end WK
set_option Elab.async false
set_option linter.all false
set_option maxRecDepth 100000
namespace WK
open PySem PySem.Spec PyProof.Rows L2
theorem sq_same {K : PySem.W.Frag} {H H' : Hp} {a : Addr} {xs : List V} (e : Same H H') (h : SqT K H a xs) : SqT K H' a xs := by
  rcases h with (h | ⟨o, h⟩) | h
  · exact .inl (.inl (e _ _ h))
  · exact .inl (.inr ⟨o, e _ _ h⟩)
  · exact .inr h
theorem sq_of {K : PySem.W.Frag} {H : Hp} {a : Addr} {xs : List V} (h : H a = some (.tup xs)) : SqT K H a xs := .inl (.inl h)
theorem slB {K : PySem.W.Frag} {lo hi : Option Int} {H : Hp} {Q : VK} {a : Addr} {xs : List V} (ht : SqT K H a xs)
    (k : ∀ p H', Same H H' → SqT K H' p (cutV xs lo hi) → Q (.ref p) H') : rSlA K (.ref a) lo hi H Q := by
  refine ⟨a, xs, rfl, ht, fun w => k a H (Same.refl _) ?_, fun _ p np => k p _ (same_new np) (sq_of upd_same)⟩
  have e : cutV xs lo hi = xs := by
    unfold cutV
    rw [w.1, w.2, List.drop_zero, Nat.sub_zero, List.take_length]
  rw [e]
  exact ht
theorem catB {K : PySem.W.Frag} {H : Hp} {Q : VK} {a b : Addr} {xs ys : List V} (ha : SqT K H a xs) (hb : SqT K H b ys) (hl : xs.length + ys.length ≤ sizeLine)
    (k : ∀ p H', Same H H' → SqT K H' p (xs ++ ys) → Q (.ref p) H') : rCatA K (.ref a) (.ref b) H Q := by
  refine ⟨a, b, xs, ys, rfl, rfl, ha, hb, hl, fun e => ?_, fun _ e => ?_, fun _ _ p np => k p _ (same_new np) (sq_of upd_same)⟩
  · subst e
    exact k b H (Same.refl _) hb
  · subst e
    refine k a H (Same.refl _) ?_
    rw [List.append_nil]
    exact ha
theorem repB {K : PySem.W.Frag} {H : Hp} {Q : VK} {a : Addr} {z k : Int} (ha : SqT K H a [.int z]) (h1 : -(2 ^ 62) ≤ k) (h2 : k ≤ 1000)
    (q : ∀ p H', Same H H' → SqT K H' p ((List.replicate k.toNat z).map V.int) → Q (.ref p) H') : rRepA K (.ref a) (.int k) H Q := by
  refine ⟨a, k, [.int z], rfl, rfl, ha, h1, h2, by show 1 ≤ 1000; decide, fun e => ?_, fun _ p np => q p _ (same_new np) ?_⟩
  · rcases e with rfl | e
    · exact q a H (Same.refl _) ha
    · cases e
  · rw [rep1]
    exact sq_of upd_same
/-! ### slots and works, also where they stand in the module -/
def SltK (K : PySem.W.Frag) (H : Hp) (v : V) (s : Slt) : Prop := ∃ t u, v = .ref t ∧ SqT K H t [.int s.need, .int s.most, .int s.first, .ref u] ∧ SqT K H u (s.slopes.map V.int)
theorem SltK.same {K : PySem.W.Frag} {H H' : Hp} {v : V} {s : Slt} (e : Same H H') (h : SltK K H v s) : SltK K H' v s := by
  obtain ⟨t, u, rfl, a, b⟩ := h
  exact ⟨t, u, rfl, sq_same e a, sq_same e b⟩
theorem SltK.of {K : PySem.W.Frag} {H : Hp} {v : V} {s : Slt} (h : SltAt H v s) : SltK K H v s := by
  obtain ⟨t, u, rfl, a, b⟩ := h
  exact ⟨t, u, rfl, sq_of a, sq_of b⟩
inductive SltsK (K : PySem.W.Frag) (H : Hp) : List V → List Slt → Prop
  | nil : SltsK K H [] []
  | cons {v : V} {vs : List V} {s : Slt} {ss : List Slt} : SltK K H v s → SltsK K H vs ss → SltsK K H (v :: vs) (s :: ss)
theorem SltsK.same {K : PySem.W.Frag} {H H' : Hp} (e : Same H H') : ∀ {vs : List V} {ss : List Slt}, SltsK K H vs ss → SltsK K H' vs ss
  | _, _, .nil => .nil
  | _, _, .cons a b => .cons (a.same e) (SltsK.same e b)
theorem SltsK.len {K : PySem.W.Frag} {H : Hp} : ∀ {vs : List V} {ss : List Slt}, SltsK K H vs ss → vs.length = ss.length
  | _, _, .nil => rfl
  | _, _, .cons _ b => congrArg (· + 1) (SltsK.len b)
theorem SltsK.snoc {K : PySem.W.Frag} {H : Hp} : ∀ {vs : List V} {ss : List Slt} {v : V} {s : Slt}, SltsK K H vs ss → SltK K H v s → SltsK K H (vs ++ [v]) (ss ++ [s])
  | _, _, _, _, .nil, h => .cons h .nil
  | _, _, _, _, .cons a b, h => .cons a (SltsK.snoc b h)
theorem SltsK.app {K : PySem.W.Frag} {H : Hp} : ∀ {vs ws : List V} {ss ts : List Slt}, SltsK K H vs ss → SltsK K H ws ts → SltsK K H (vs ++ ws) (ss ++ ts)
  | _, _, _, _, .nil, h => h
  | _, _, _, _, .cons a b, h => .cons a (SltsK.app b h)
theorem SltsK.get {K : PySem.W.Frag} {H : Hp} : ∀ {vs : List V} {ss : List Slt} {i : Nat} {v : V}, SltsK K H vs ss → vs[i]? = some v → ∃ s, ss[i]? = some s ∧ SltK K H v s
  | _, _, _, _, .nil, e => by simp at e
  | _, _, 0, v, .cons a _, e => by
    have e : _ = v := Option.some.inj e
    subst e
    exact ⟨_, rfl, a⟩
  | _, _, i + 1, v, .cons _ b, e => by
    rw [List.getElem?_cons_succ] at e ⊢
    exact SltsK.get b e
def mx (i j : Int) : Int := if j > i then j else i
def mn (i j : Int) : Int := if j < i then j else i
theorem mx_eq (i j : Int) : mx i j = max i j := by
  unfold mx
  split <;> omega
theorem mn_eq (i j : Int) : mn i j = min i j := by
  unfold mn
  split <;> omega
structure Slt.Len (s : Slt) : Prop where
  len : (s.slopes.length : Int) = s.most - s.need
  mid : s.need ≤ s.most
  wide : s.most - s.need ≤ 1000
/-- slopes from low to high -/
def winL (s : Slt) (lo hi : Int) : List Int := (s.slopes.drop (lo - s.need).toNat).take ((hi - s.need).toNat - (lo - s.need).toNat)
theorem winL_len {s : Slt} {lo hi : Int} (h : s.Len) (h1 : s.need ≤ lo) (h2 : lo ≤ hi) (h3 : hi ≤ s.most) : ((winL s lo hi).length : Int) = hi - lo := by
  have := h.len
  unfold winL
  rw [List.length_take, List.length_drop]
  omega
theorem cut_win {s : Slt} {lo hi : Int} (h : s.Len) (h1 : s.need ≤ lo) (h2 : lo ≤ hi) (h3 : hi ≤ s.most) : cutV (s.slopes.map V.int) (some (lo - s.need)) (some (hi - s.need)) = (winL s lo hi).map V.int := by
  have hl := h.len
  obtain ⟨m, hm⟩ := Int.eq_ofNat_of_zero_le (show 0 ≤ lo - s.need by omega)
  obtain ⟨n, hn⟩ := Int.eq_ofNat_of_zero_le (show 0 ≤ hi - s.need by omega)
  unfold cutV winL
  rw [hm, hn, HT.sIx_nat, HT.sIx_nat, List.length_map, Int.toNat_natCast, Int.toNat_natCast, Nat.min_eq_left (by omega), Nat.min_eq_left (by omega), List.map_take, List.map_drop]
def addL (a b : List Int) : List Int := List.zipWith (· + ·) a b
/-- two works, added -/
def sumW (a b : Slt) : Option Slt :=
  if mx a.need b.need > mn a.most b.most then none
  else some ⟨mx a.need b.need, mn a.most b.most, costAt a (mx a.need b.need) + costAt b (mx a.need b.need), addL (winL a (mx a.need b.need) (mn a.most b.most)) (winL b (mx a.need b.need) (mn a.most b.most))⟩
def lowW (s : Slt) : Int := s.need + ((s.slopes.filter fun z => decide (z < 0)).length : Nat)
def highW (s : Slt) (b : Int) : Int := s.need + ((s.slopes.filter fun z => decide (z ≤ b)).length : Nat)
def leastW (s : Slt) : Int := costAt s (lowW s)
def clampL (l : List Int) (b : Int) : List Int := l.map fun z => mn (mx 0 z) b
def heldWorth (s : Slt) (b x : Int) : Int := leastW s + ((clampL s.slopes b).take (mx 0 (x - s.need)).toNat).sum + b * mx 0 (x - s.most)
def heldMid (s : Slt) (b lo hi : Int) : List Int := ((clampL s.slopes b).drop (mx 0 (lo - s.need)).toNat).take ((mx 0 (hi - s.need)).toNat - (mx 0 (lo - s.need)).toNat)
def heldSlopes (s : Slt) (b lo hi : Int) : List Int := List.replicate (mx 0 (mn hi s.need - lo)).toNat 0 ++ heldMid s b lo hi ++ List.replicate (mx 0 (hi - mx lo s.most)).toNat b
def heldW (s : Slt) (b lo hi : Int) : Slt := ⟨lo, hi, heldWorth s b lo, heldSlopes s b lo hi⟩
theorem heldW_len {s : Slt} {b lo hi : Int} (h : s.Len) (h1 : lo ≤ hi) (h2 : hi - lo ≤ 1000) : (heldW s b lo hi).Len := by
  refine ⟨?_, h1, h2⟩
  have hl := h.len
  have hm := h.mid
  show ((heldSlopes s b lo hi).length : Int) = hi - lo
  unfold heldSlopes heldMid clampL
  rw [List.length_append, List.length_append, List.length_replicate, List.length_replicate, List.length_take, List.length_drop, List.length_map]
  simp only [mx_eq, mn_eq]
  omega
theorem sumW_len {a b c : Slt} (ha : a.Len) (hb : b.Len) (h : sumW a b = some c) : c.Len := by
  unfold sumW at h
  split at h
  · cases h
  · rename_i hle
    have h := Option.some.inj h
    subst h
    have hle : mx a.need b.need ≤ mn a.most b.most := by omega
    have e1 : a.need ≤ mx a.need b.need ∧ b.need ≤ mx a.need b.need := by rw [mx_eq]; omega
    have e2 : mn a.most b.most ≤ a.most ∧ mn a.most b.most ≤ b.most := by rw [mn_eq]; omega
    refine ⟨?_, hle, by have := ha.wide; show mn a.most b.most - mx a.need b.need ≤ 1000; omega⟩
    show ((addL _ _).length : Int) = _
    unfold addL
    rw [List.length_zipWith]
    have l1 := winL_len ha e1.1 hle e2.1
    have l2 := winL_len hb e1.2 hle e2.2
    show ((min _ _ : Nat) : Int) = mn a.most b.most - mx a.need b.need
    omega
theorem low_in {s : Slt} (h : s.Len) : s.need ≤ lowW s ∧ lowW s ≤ s.most := by
  have hl := h.len
  have := List.length_filter_le (fun z => decide (z < 0)) s.slopes
  unfold lowW
  omega
end WK
namespace WK
open PySem PySem.Spec PyProof.Rows L2
def spCostK (K : PySem.W.Frag) : Sp := fun vs H Q _ => ∃ (t : V) (x : Int) (s : Slt), vs = [t, .int x] ∧ SltK K H t s ∧ ∀ H', Same H H' → Q (costV s x) H'
def spWithin (K : PySem.W.Frag) : Sp := fun vs H Q _ => ∃ (t : V) (lo hi : Int) (s : Slt), vs = [t, .int lo, .int hi] ∧ SltK K H t s ∧ s.Len ∧ s.need ≤ lo ∧ lo ≤ hi ∧ hi ≤ s.most ∧
  ∀ H' p, Same H H' → SqT K H' p ((winL s lo hi).map V.int) → Q (.ref p) H'
def spSum (K : PySem.W.Frag) : Sp := fun vs H Q _ => ∃ (t u : V) (a b : Slt), vs = [t, u] ∧ SltK K H t a ∧ SltK K H u b ∧ a.Len ∧ b.Len ∧ (sumW a b = none → ∀ H', Same H H' → Q .non H') ∧
  ∀ c, sumW a b = some c → ∀ H' v, Same H H' → SltK K H' v c → Q v H'
def spLow (K : PySem.W.Frag) : Sp := fun vs H Q _ => ∃ (t : V) (s : Slt), vs = [t] ∧ SltK K H t s ∧ s.slopes.length ≤ 1000 ∧ ∀ H', Same H H' → Q (.int (lowW s)) H'
def spHigh (K : PySem.W.Frag) : Sp := fun vs H Q _ => ∃ (t : V) (b : Int) (s : Slt), vs = [t, .int b] ∧ SltK K H t s ∧ s.slopes.length ≤ 1000 ∧ ∀ H', Same H H' → Q (.int (highW s b)) H'
def spLeast (K : PySem.W.Frag) : Sp := fun vs H Q _ => ∃ (t : V) (s : Slt), vs = [t] ∧ SltK K H t s ∧ s.Len ∧ ∀ H', Same H H' → Q (.int (leastW s)) H'
def spBounded (K : PySem.W.Frag) : Sp := fun vs H Q _ => ∃ (p : Addr) (b : Int) (l : List Int), vs = [.ref p, .int b] ∧ SqT K H p (l.map V.int) ∧ l.length ≤ 1000 ∧ ∀ H' q, Same H H' → SqT K H' q ((clampL l b).map V.int) → Q (.ref q) H'
def spHW (K : PySem.W.Frag) : Sp := fun vs H Q _ => ∃ (t : V) (b x : Int) (s : Slt), vs = [t, .int b, .int x] ∧ SltK K H t s ∧ s.Len ∧ -(2 ^ 64) < b ∧ b < 2 ^ 64 ∧ ∀ H', Same H H' → Q (.int (heldWorth s b x)) H'
def spHS (K : PySem.W.Frag) : Sp := fun vs H Q _ => ∃ (t : V) (b lo hi : Int) (s : Slt), vs = [t, .int b, .int lo, .int hi] ∧ SltK K H t s ∧ s.Len ∧ lo ≤ hi ∧ hi - lo ≤ 1000 ∧
  ∀ H' p, Same H H' → SqT K H' p ((heldSlopes s b lo hi).map V.int) → Q (.ref p) H'
def spHeld (K : PySem.W.Frag) : Sp := fun vs H Q _ => ∃ (t : V) (b lo hi : Int) (s : Slt), vs = [t, .int b, .int lo, .int hi] ∧ SltK K H t s ∧ s.Len ∧ -(2 ^ 64) < b ∧ b < 2 ^ 64 ∧ lo ≤ hi ∧ hi - lo ≤ 1000 ∧
  ∀ H' v, Same H H' → SltK K H' v (heldW s b lo hi) → Q v H'
def afterW (a s : Slt) (b : Int) : Slt := (sumW s (heldW a b s.need s.most)).getD s0
theorem after_some {a s : Slt} {b : Int} (h : s.Len) : sumW s (heldW a b s.need s.most) = some (afterW a s b) := by
  have e : ¬ mx s.need s.need > mn s.most s.most := by
    have := h.mid
    rw [mx_eq, mn_eq]
    omega
  unfold afterW sumW
  show (if mx s.need s.need > mn s.most s.most then none else _) = some ((if mx s.need s.need > mn s.most s.most then none else _).getD s0)
  rw [if_neg e]
  rfl
theorem after_len {a s : Slt} {b : Int} (ha : a.Len) (h : s.Len) : (afterW a s b).Len := sumW_len h (heldW_len ha h.mid h.wide) (after_some h)
def spAfter (K : PySem.W.Frag) : Sp := fun vs H Q _ => ∃ (t u : V) (b : Int) (a s : Slt), vs = [t, u, .int b] ∧ SltK K H t a ∧ SltK K H u s ∧ a.Len ∧ s.Len ∧ -(2 ^ 64) < b ∧ b < 2 ^ 64 ∧
  ∀ H' v, Same H H' → SltK K H' v (afterW a s b) → Q v H'
/-- nothing yet -/
def w0 : Slt := ⟨0, 0, 0, []⟩
theorem w0_len : w0.Len := ⟨rfl, by decide, by decide⟩
def worksW (a : Slt) (b : Int) : List Slt → List Slt
  | [] => []
  | s :: ss => afterW a s b :: worksW (afterW a s b) b ss
theorem worksW_len {a : Slt} {b : Int} : ∀ {ss : List Slt}, (worksW a b ss).length = ss.length
  | [] => rfl
  | _ :: _ => congrArg (· + 1) worksW_len
theorem worksW_Len {b : Int} : ∀ {ss : List Slt} {a : Slt}, a.Len → (∀ s ∈ ss, s.Len) → ∀ x ∈ worksW a b ss, x.Len
  | [], _, _, _, x, hx => by cases hx
  | s :: ss, a, ha, hs, x, hx => by
    have hl := after_len (b := b) ha (hs s (List.mem_cons_self ..))
    rcases List.mem_cons.mp hx with e | e
    · rw [e]; exact hl
    · exact worksW_Len hl (fun s' h => hs s' (List.mem_cons_of_mem _ h)) x e
/-- the last work -/
def lastW (a : Slt) (b : Int) (ss : List Slt) : Slt := ss.foldl (fun w s => afterW w s b) a
theorem worksW_snoc {b : Int} : ∀ {ss : List Slt} {a s : Slt}, worksW a b (ss ++ [s]) = worksW a b ss ++ [afterW (lastW a b ss) s b]
  | [], _, _ => rfl
  | t :: ts, a, s => by
    show afterW a t b :: worksW (afterW a t b) b (ts ++ [s]) = afterW a t b :: (worksW (afterW a t b) b ts ++ [afterW (lastW (afterW a t b) b ts) s b])
    rw [worksW_snoc]
theorem lastW_len {b : Int} : ∀ {ss : List Slt} {a : Slt}, a.Len → (∀ s ∈ ss, s.Len) → (lastW a b ss).Len
  | [], _, ha, _ => ha
  | s :: ss, a, ha, hs => lastW_len (ss := ss) (after_len ha (hs s (List.mem_cons_self ..))) (fun s' h => hs s' (List.mem_cons_of_mem _ h))
def spWorks (K : PySem.W.Frag) : Sp := fun vs H Q _ => ∃ (p : Addr) (b : Int) (us : List V) (ss : List Slt), vs = [.ref p, .int b] ∧ SqT K H p us ∧ SltsK K H us ss ∧ (∀ s ∈ ss, s.Len) ∧ ss.length ≤ 5000 ∧ -(2 ^ 64) < b ∧ b < 2 ^ 64 ∧
  ∀ H' l ws, Same H H' → H' l = some (.lst ws) → SltsK K H' ws (worksW w0 b ss) → Q (.ref l) H'
def spLeasts (K : PySem.W.Frag) : Sp := fun vs H Q _ => ∃ (p : Addr) (b : Int) (us : List V) (ss : List Slt), vs = [.ref p, .int b] ∧ SqT K H p us ∧ SltsK K H us ss ∧ (∀ s ∈ ss, s.Len) ∧ ss.length ≤ 5000 ∧ -(2 ^ 64) < b ∧ b < 2 ^ 64 ∧
  ∀ H' l, Same H H' → H' l = some (.lst (((worksW w0 b ss).map leastW).map V.int)) → Q (.ref l) H'
def spLeastC (K : PySem.W.Frag) : Sp := fun vs H Q _ => ∃ (p : Addr) (b : Int) (us : List V) (ss : List Slt), vs = [.ref p, .int b] ∧ SqT K H p us ∧ SltsK K H us ss ∧ (∀ s ∈ ss, s.Len) ∧ ss.length ≤ 5000 ∧ -(2 ^ 64) < b ∧ b < 2 ^ 64 ∧
  ∀ H', Same H H' → Q (.int (leastW (lastW w0 b ss))) H'
def plainW (need most price : Int) : Slt := ⟨need, most, need * price, List.replicate (most - need).toNat price⟩
theorem plainW_len {need most price : Int} (h : need ≤ most) (h2 : most - need ≤ 1000) : (plainW need most price).Len := by
  refine ⟨?_, h, h2⟩
  show ((List.replicate _ _).length : Int) = most - need
  rw [List.length_replicate]
  omega
def spPlain (K : PySem.W.Frag) : Sp := fun vs H Q _ => ∃ (need most price : Int), vs = [.int need, .int most, .int price] ∧ need ≤ most ∧ most - need ≤ 1000 ∧ -(2 ^ 64) < price ∧ price < 2 ^ 64 ∧
  ∀ H' v, Same H H' → SltK K H' v (plainW need most price) → Q v H'
theorem cut_mid {xs : List V} {m n : Nat} : cutV xs (some (m : Int)) (some (n : Int)) = (xs.drop m).take (n - m) := by
  unfold cutV
  rw [HT.sIx_nat, HT.sIx_nat]
  by_cases h : m ≤ xs.length
  · rw [Nat.min_eq_left h]
    by_cases h2 : n ≤ xs.length
    · rw [Nat.min_eq_left h2]
    · rw [Nat.min_eq_right (by omega), List.take_of_length_le (by rw [List.length_drop]; omega), List.take_of_length_le (by rw [List.length_drop]; omega)]
  · rw [Nat.min_eq_right (a := m) (by omega), List.drop_of_length_le (by omega), List.drop_of_length_le (by omega), List.take_nil, List.take_nil]
end WK
namespace WK
open PySem PySem.Spec PyProof.Rows L2
theorem filt_yes {p : Int → Bool} {l : List Int} {i : Nat} {z : Int} (h : l[i]? = some z) (c : p z = true) : ((l.take (i + 1)).filter p).map V.int = ((l.take i).filter p).map V.int ++ [.int z] := by
  obtain ⟨hi, e⟩ := List.getElem?_eq_some_iff.mp h
  rw [List.take_succ_eq_append_getElem hi, List.filter_append, e, List.filter_cons, if_pos c, List.map_append]
  rfl
theorem filt_no {p : Int → Bool} {l : List Int} {i : Nat} {z : Int} (h : l[i]? = some z) (c : ¬ p z = true) : ((l.take (i + 1)).filter p).map V.int = ((l.take i).filter p).map V.int := by
  obtain ⟨hi, e⟩ := List.getElem?_eq_some_iff.mp h
  rw [List.take_succ_eq_append_getElem hi, List.filter_append, e, List.filter_cons, if_neg c, List.filter_nil, List.append_nil]
theorem filt_len {p : Int → Bool} {l : List Int} {i : Nat} : ((l.take i).filter p).length ≤ l.length :=
  Nat.le_trans (List.length_filter_le _ _) (by rw [List.length_take]; exact Nat.min_le_right _ _)
end WK
namespace WK
open PySem PySem.Spec PyProof.Rows L2
theorem addL_snoc {xs ys : List Int} {i : Nat} {x y : Int} (hx : xs[i]? = some x) (hy : ys[i]? = some y) : addL (xs.take (i + 1)) (ys.take (i + 1)) = addL (xs.take i) (ys.take i) ++ [x + y] := by
  obtain ⟨h1, e1⟩ := List.getElem?_eq_some_iff.mp hx
  obtain ⟨h2, e2⟩ := List.getElem?_eq_some_iff.mp hy
  unfold addL
  rw [List.take_succ_eq_append_getElem h1, List.take_succ_eq_append_getElem h2, e1, e2, List.zipWith_append (by rw [List.length_take, List.length_take]; omega)]
  rfl
end WK
namespace WK
open PySem PySem.Spec PyProof.Rows L2
theorem sq_upd {K : PySem.W.Frag} {H : Hp} {l a : Addr} {xs ys : List V} {o : HO} (h : H l = some (.lst xs)) (e : SqT K H a ys) : SqT K (upd H l o) a ys := by
  rcases e with (e | ⟨o', e⟩) | e
  · refine .inl (.inl ?_)
    rw [upd_ne (fun z => by rw [z, h] at e; cases e)]
    exact e
  · refine .inl (.inr ⟨o', ?_⟩)
    rw [upd_ne (fun z => by rw [z, h] at e; cases e)]
    exact e
  · exact .inr e
theorem SltK.upd {K : PySem.W.Frag} {H : Hp} {l : Addr} {xs : List V} {o : HO} {v : V} {s : Slt} (h : H l = some (.lst xs)) (e : SltK K H v s) : SltK K (L2.upd H l o) v s := by
  obtain ⟨t, u, rfl, a, b⟩ := e
  exact ⟨t, u, rfl, sq_upd h a, sq_upd h b⟩
theorem SltsK.upd {K : PySem.W.Frag} {H : Hp} {l : Addr} {xs : List V} {o : HO} (h : H l = some (.lst xs)) : ∀ {vs : List V} {ss : List Slt}, SltsK K H vs ss → SltsK K (L2.upd H l o) vs ss
  | _, _, .nil => .nil
  | _, _, .cons a b => .cons (a.upd h) (SltsK.upd h b)
theorem lastW_snoc {a s : Slt} {b : Int} {ss : List Slt} : lastW a b (ss ++ [s]) = afterW (lastW a b ss) s b := by
  unfold lastW
  rw [List.foldl_append]
  rfl
theorem take_snoc1 {α : Type} {l : List α} {i : Nat} {x : α} (h : l[i]? = some x) : l.take (i + 1) = l.take i ++ [x] := by
  obtain ⟨hi, e⟩ := List.getElem?_eq_some_iff.mp h
  rw [List.take_succ_eq_append_getElem hi, e]
end WK
set_option Elab.async false
set_option linter.all false
set_option maxRecDepth 100000
namespace WK
open PySem PySem.Spec PyProof.Rows L2
/-! ### works by hand -/
theorem least_nil {m n f : Int} : leastW ⟨m, n, f, []⟩ = f := by
  unfold leastW costAt
  simp
theorem after_pt {m n f g b : Int} : afterW ⟨m, m, g, []⟩ ⟨n, n, f, []⟩ b = ⟨n, n, f + (g + b * max 0 (n - m)), []⟩ := by
  have e : ¬ mx n n > mn n n := by rw [mx_eq, mn_eq]; omega
  unfold afterW sumW heldW
  simp only [if_neg e, Option.getD_some]
  have e1 : mx n n = n := by rw [mx_eq]; omega
  have e2 : mn n n = n := by rw [mn_eq]; omega
  rw [e1, e2]
  have e3 : costAt ⟨n, n, f, []⟩ n = f := by unfold costAt; simp
  have e4 : costAt ⟨n, n, heldWorth ⟨m, m, g, []⟩ b n, heldSlopes ⟨m, m, g, []⟩ b n n⟩ n = g + b * max 0 (n - m) := by
    unfold costAt heldWorth
    rw [least_nil, mx_eq]
    simp [clampL]
  rw [e3, e4]
  congr 1
  unfold addL winL
  simp
theorem after_idle0 {g b : Int} : afterW ⟨1, 1, g, []⟩ ⟨0, 1, 0, [1]⟩ b = ⟨0, 1, g, [1]⟩ := by
  have hs : heldSlopes ⟨1, 1, g, []⟩ b 0 1 = [0] := by
    simp [heldSlopes, heldMid, clampL, mx, mn]
  have hw : heldWorth ⟨1, 1, g, []⟩ b 0 = g := by
    unfold heldWorth
    rw [least_nil]
    simp [clampL, mx]
  unfold afterW sumW heldW
  simp only [hs, hw]
  simp [mx, mn, costAt, addL, winL]
theorem least_up {m n f : Int} {l : List Int} (h : ∀ z ∈ l, 0 ≤ z) : leastW ⟨m, n, f, l⟩ = f := by
  have e : (l.filter fun z => decide (z < 0)) = [] := by
    rw [List.filter_eq_nil_iff]
    intro z hz
    have := h z hz
    simp
    omega
  unfold leastW lowW costAt
  simp only [e]
  simp
theorem cl {c b : Int} (hc : 0 ≤ c) : mn (mx 0 c) b = min c b := by
  rw [mx_eq, mn_eq]
  omega
theorem after_idle {g b c : Int} (hc : 0 ≤ c) : afterW ⟨0, 1, g, [c]⟩ ⟨0, 1, 0, [1]⟩ b = ⟨0, 1, g, [1 + min c b]⟩ := by
  have hs : heldSlopes ⟨0, 1, g, [c]⟩ b 0 1 = [min c b] := by
    have e : clampL [c] b = [min c b] := by simp [clampL, cl hc]
    unfold heldSlopes heldMid
    simp only [e]
    simp [mx, mn]
  have hw : heldWorth ⟨0, 1, g, [c]⟩ b 0 = g := by
    unfold heldWorth
    rw [least_up (by simpa using hc)]
    simp [mx]
  unfold afterW sumW heldW
  simp only [hs, hw]
  simp [mx, mn, costAt, addL, winL]
theorem after_need {g b c : Int} (hc : 0 ≤ c) : afterW ⟨0, 1, g, [c]⟩ ⟨1, 1, 1, []⟩ b = ⟨1, 1, 1 + (g + min c b), []⟩ := by
  have e : clampL [c] b = [min c b] := by simp [clampL, cl hc]
  have hs : heldSlopes ⟨0, 1, g, [c]⟩ b 1 1 = [] := by
    unfold heldSlopes heldMid
    simp only [e]
    simp [mx, mn]
  have hw : heldWorth ⟨0, 1, g, [c]⟩ b 1 = g + min c b := by
    unfold heldWorth
    rw [least_up (by simpa using hc)]
    simp only [e]
    simp [mx]
  unfold afterW sumW heldW
  simp only [hs, hw]
  simp [mx, mn, costAt, addL, winL]
theorem after_four0 {b p : Int} : afterW w0 ⟨3, 7, 3 * p, [p, p, p, p]⟩ b = ⟨3, 7, 3 * p + 3 * b, [p + b, p + b, p + b, p + b]⟩ := by
  have hs : heldSlopes w0 b 3 7 = [b, b, b, b] := by
    simp [heldSlopes, heldMid, clampL, w0, mx, mn, List.replicate]
  have hw : heldWorth w0 b 3 = 3 * b := by
    unfold heldWorth w0
    rw [least_nil]
    simp [clampL, mx]
    omega
  unfold afterW sumW heldW
  simp only [hs, hw]
  simp [mx, mn, costAt, addL, winL]
theorem after_four {g b p : Int} (hb : 0 ≤ b) (hp : 0 ≤ p) : afterW ⟨3, 7, g, [p + b, p + b, p + b, p + b]⟩ ⟨3, 7, 3 * p, [p, p, p, p]⟩ b = ⟨3, 7, 3 * p + g, [p + b, p + b, p + b, p + b]⟩ := by
  have hs : heldSlopes ⟨3, 7, g, [p + b, p + b, p + b, p + b]⟩ b 3 7 = [b, b, b, b] := by
    have e : clampL [p + b, p + b, p + b, p + b] b = [b, b, b, b] := by
      have : min (p + b) b = b := by omega
      simp [clampL, cl (show 0 ≤ p + b by omega), this]
    unfold heldSlopes heldMid
    simp only [e]
    simp [mx, mn]
  have hw : heldWorth ⟨3, 7, g, [p + b, p + b, p + b, p + b]⟩ b 3 = g := by
    unfold heldWorth
    rw [least_up (by intro z hz; simp at hz; omega)]
    simp [mx]
  unfold afterW sumW heldW
  simp only [hs, hw]
  simp [mx, mn, costAt, addL, winL]
def p1 : Slt := ⟨1, 1, 1, []⟩
def p0 : Slt := ⟨0, 1, 0, [1]⟩
theorem gap_aux {g b : Int} (hb : 0 ≤ b) : ∀ {n : Nat} {c : Int}, 0 ≤ c → (worksW ⟨0, 1, g, [c]⟩ b (List.replicate n p0 ++ [p1])).map leastW = List.replicate n g ++ [1 + (g + min (c + n) b)]
  | 0, c, hc => by
    show [leastW (afterW ⟨0, 1, g, [c]⟩ ⟨1, 1, 1, []⟩ b)] = [1 + (g + min (c + 0) b)]
    rw [after_need hc, least_nil, Int.add_zero]
  | n + 1, c, hc => by
    show leastW (afterW ⟨0, 1, g, [c]⟩ ⟨0, 1, 0, [1]⟩ b) :: (worksW (afterW ⟨0, 1, g, [c]⟩ ⟨0, 1, 0, [1]⟩ b) b (List.replicate n p0 ++ [p1])).map leastW = g :: (List.replicate n g ++ [1 + (g + min (c + ((n + 1 : Nat) : Int)) b)])
    rw [after_idle hc, gap_aux hb (show 0 ≤ 1 + min c b by omega), least_up (by intro z hz; simp at hz; omega)]
    have e : min (1 + min c b + (n : Int)) b = min (c + ((n + 1 : Nat) : Int)) b := by omega
    rw [e]
theorem gap_all {b : Int} (hb : 0 ≤ b) {n : Nat} : (worksW w0 b (p1 :: (List.replicate (n + 1) p0 ++ [p1]))).map leastW = List.replicate (n + 1 + 1) (b + 1) ++ [b + 2 + min ((n + 1 : Nat) : Int) b] := by
  have e1 : afterW w0 p1 b = ⟨1, 1, b + 1, []⟩ := by
    show afterW ⟨0, 0, 0, []⟩ ⟨1, 1, 1, []⟩ b = _
    rw [after_pt, show max (0 : Int) (1 - 0) = 1 from by decide]
    congr 1
    omega
  show leastW (afterW w0 p1 b) :: leastW (afterW (afterW w0 p1 b) ⟨0, 1, 0, [1]⟩ b) :: (worksW (afterW (afterW w0 p1 b) ⟨0, 1, 0, [1]⟩ b) b (List.replicate n p0 ++ [p1])).map leastW = _
  rw [e1, after_idle0, gap_aux hb (by decide), least_nil, least_up (by intro z hz; simp at hz; omega)]
  have e : 1 + (b + 1 + min (1 + (n : Int)) b) = b + 2 + min ((n + 1 : Nat) : Int) b := by omega
  rw [e]
  rfl
def p4 (p : Int) : Slt := ⟨3, 7, 3 * p, [p, p, p, p]⟩
theorem many_aux {b p : Int} (hb : 0 ≤ b) (hp : 0 ≤ p) : ∀ {n : Nat} {g : Int}, lastW ⟨3, 7, g, [p + b, p + b, p + b, p + b]⟩ b (List.replicate n (p4 p)) = ⟨3, 7, 3 * p * n + g, [p + b, p + b, p + b, p + b]⟩
  | 0, g => by
    show (⟨3, 7, g, [p + b, p + b, p + b, p + b]⟩ : Slt) = _
    rw [show 3 * p * ((0 : Nat) : Int) + g = g by simp]
  | n + 1, g => by
    show lastW (afterW ⟨3, 7, g, [p + b, p + b, p + b, p + b]⟩ ⟨3, 7, 3 * p, [p, p, p, p]⟩ b) b (List.replicate n (p4 p)) = _
    rw [after_four hb hp, many_aux hb hp]
    have e : 3 * p * (n : Int) + (3 * p + g) = 3 * p * ((n + 1 : Nat) : Int) + g := by
      rw [Int.natCast_add, Int.mul_add]
      omega
    rw [e]
theorem many_all {b p : Int} (hb : 0 ≤ b) (hp : 0 ≤ p) {n : Nat} : leastW (lastW w0 b (List.replicate (n + 1) (p4 p))) = 3 * b + 3 * p * ((n + 1 : Nat) : Int) := by
  show leastW (lastW (afterW w0 ⟨3, 7, 3 * p, [p, p, p, p]⟩ b) b (List.replicate n (p4 p))) = _
  rw [after_four0, many_aux hb hp, least_up (by intro z hz; simp at hz; omega)]
  rw [Int.natCast_add, Int.mul_add]
  omega
/-! ### how works are printed -/
def sltD (s : Slt) : PyData := .tuple [.int s.need, .int s.most, .int s.first, .tuple (intsD s.slopes)]
theorem dp_slt {K : PySem.W.Frag} {H : Hp} {v : V} {s : Slt} (h : SltK K H v s) : Dp K H v (sltD s) := by
  obtain ⟨t, u, rfl, a, b⟩ := h
  exact .tup a (.cons (.int _) (.cons (.int _) (.cons (.int _) (.cons (.tup b (dp_ints _)) .nil))))
theorem dp_slts {K : PySem.W.Frag} {H : Hp} : ∀ {vs : List V} {ss : List Slt}, SltsK K H vs ss → DpAll K H vs (ss.map sltD)
  | _, _, .nil => .nil
  | _, _, .cons a b => .cons (dp_slt a) (dp_slts b)
end WK
namespace WK
open PySem PySem.Spec PyProof.Rows L2
def sU : Slt := ⟨2, 2, 6, []⟩
def sDn : Slt := ⟨0, 0, 5, []⟩
theorem ud_works {b : Int} : worksW w0 b [sU, sDn, sU] = [⟨2, 2, 6 + 2 * b, []⟩, ⟨0, 0, 11 + 2 * b, []⟩, ⟨2, 2, 17 + 4 * b, []⟩] := by
  have m1 : max (0 : Int) (2 - 0) = 2 := by decide
  have m2 : max (0 : Int) (0 - 2) = 0 := by decide
  simp only [worksW, w0, sU, sDn, after_pt, m1, m2]
  have h1 : (6 : Int) + (0 + b * 2) = 6 + 2 * b := by omega
  have h2 : (5 : Int) + (6 + (0 + b * 2) + b * 0) = 11 + 2 * b := by omega
  have h3 : (6 : Int) + (5 + (6 + (0 + b * 2) + b * 0) + b * 2) = 17 + 4 * b := by omega
  rw [h3, h2, h1]
theorem ud_least {b : Int} : leastW (lastW w0 b [sU, sDn, sU, sDn, sU, sDn]) = 33 + 6 * b := by
  have m1 : max (0 : Int) (2 - 0) = 2 := by decide
  have m2 : max (0 : Int) (0 - 2) = 0 := by decide
  simp only [lastW, List.foldl, w0, sU, sDn, after_pt, m1, m2, least_nil]
  omega
theorem far_works {b f g : Int} (hf : 0 ≤ f) : worksW w0 b [⟨f, f, g, []⟩] = [⟨f, f, g + f * b, []⟩] := by
  simp only [worksW, w0, after_pt]
  have h : g + (0 + b * max 0 (f - 0)) = g + f * b := by
    rw [show max (0 : Int) (f - 0) = f by omega, Int.mul_comm b f, Int.zero_add]
  rw [h]
theorem far_least {b f g : Int} (hf : 0 ≤ f) : leastW (lastW w0 b [⟨f, f, g, []⟩]) = g + f * b := by
  have h := far_works (b := b) (g := g) hf
  have e : lastW w0 b [⟨f, f, g, []⟩] = ⟨f, f, g + f * b, []⟩ := by
    have h2 : [afterW w0 ⟨f, f, g, []⟩ b] = [⟨f, f, g + f * b, []⟩] := h
    exact (List.cons.inj h2).1
  rw [e, least_nil]
/-- numbers, and what is printed of them -/
theorem nat150 {z : Int} (h1 : -(10 ^ 40) ≤ z) (h2 : z ≤ 10 ^ 40) : z.natAbs < 10 ^ 150 := Nat.lt_of_le_of_lt (show z.natAbs ≤ 10 ^ 40 by omega) (by decide)
end WK
namespace WK
open PySem PySem.Spec PyProof.Rows L2
theorem repV {K : PySem.W.Frag} {H : Hp} {Q : VK} {a : Addr} {v y : V} {k : Int} (hy : y = .int k) (ha : SqT K H a [v]) (h1 : 1 ≤ k) (h2 : k ≤ 1000)
    (q : ∀ p H', Same H H' → SqT K H' p (List.replicate k.toNat v) → Q (.ref p) H') : rRepA K (.ref a) y H Q := by
  have e : ∀ n : Nat, (List.replicate n [v]).flatten = List.replicate n v := fun n => by
    induction n with
    | zero => rfl
    | succ n ih => rw [List.replicate_succ, List.flatten_cons, ih, List.replicate_succ]; rfl
  refine ⟨a, k, [v], rfl, hy, ha, by omega, h2, by show 1 ≤ 1000; decide, fun z => ?_, fun _ p np => q p _ (same_new np) ?_⟩
  · rcases z with rfl | z
    · exact q a H (Same.refl _) ha
    · cases z
  · rw [e]
    exact sq_of upd_same
theorem SltsK.rep {K : PySem.W.Frag} {H : Hp} {v : V} {s : Slt} (h : SltK K H v s) : ∀ n : Nat, SltsK K H (List.replicate n v) (List.replicate n s)
  | 0 => .nil
  | n + 1 => .cons h (SltsK.rep h n)
end WK
namespace WK
open PySem PySem.Spec PyProof.Rows L2
theorem shows_ints {ns : List Int} (hl : ns.length ≤ 1000) (h : ∀ n ∈ ns, n.natAbs < 10 ^ 150) : Shows (.list (intsD ns)) := by
  refine shows_of (lil_ints h) ?_ ?_
  · show PyData.depthAll (intsD ns) + 1 ≤ 20
    rw [depth_ints]
    decide
  · have h1 := cost_ints (ns := ns)
    have h2 : ns.length * 153 ≤ 1000 * 153 := Nat.mul_le_mul_right _ hl
    refine Nat.le_trans ?_ (show 1000 * 153 + 10 ≤ sizeLine by decide)
    show costAll (intsD ns) + 3 ≤ _
    omega
end WK
set_option Elab.async false
set_option linter.all false
set_option maxRecDepth 100000
namespace K16
open PySem PySem.Spec PyProof.Rows L2 WK
def topS (i : Nat) : Stmt := PySem.Challenge.pw_wakedenough_k16_works_by_hand.main.body.getD i (.Pass ⟨0, 0, 0, 0⟩)
abbrev sSource : Stmt := topS 26
abbrev sPick : Stmt := topS 27
theorem scSource : FnScope ["script", "mixed", "cell"] ["script"] (defScope sSource) := ⟨rfl, rfl, rfl, by decide +kernel, rfl, by decide +kernel, by decide +kernel⟩
theorem scPick : FnScope ["source", "many", "left", "mixed"] ["source", "many"] (defScope sPick) := ⟨rfl, rfl, rfl, by decide +kernel, rfl, by decide +kernel, by decide +kernel⟩
local macro_rules | `(tactic| walk_at "rd") => `(tactic| repeat (first | refine Exists.intro _ (And.intro rfl ?_) | refine Exists.intro _ (Exists.intro _ (And.intro rfl (And.intro rfl ?_))) | refine Exists.intro _ (Exists.intro _ (And.intro rfl ?_))))
section
variable {P : Program} {w : World} {K : PySem.W.Frag} {mg : Str → Option Value} {base : Heap}
theorem ok_source {f : Addr} {fd : FuncData} (F : Fun K "_law_source" "_law_source" sSource f fd) (B : Blt mg) : FnOk P w K mg base CX0 1 f fd ["script"] (spSource K) := by
  refine F.ok scSource (fun vs H Q E h => ?_) (fun cdv A outer s H vs Q E hr h => ?_)
  · obtain ⟨a, ns, rfl, _⟩ := h
    rfl
  · obtain ⟨a, ns, rfl, hS, hlen, q⟩ := h
    refine ⟨_, pss_cons (ps_set (i := 1) scSource.nd rfl (.inl rfl) pe_int)
      (pss_cons (ps_for PassesOwn.never rfl (pi_list (pv 0)) (pg_name (i := 2) scSource.nd rfl (.inl rfl))
        (pss_one (ps_set (i := 1) scSource.nd rfl (.inl rfl)
          (pe_op op_mod (pe_callTy call_int1 (by rfl) B.int (by decide +kernel) (pa_cons (pe_op op_add (pe_op op_add (pe_op op_mul (pv 1) pe_int) (pe_op op_mul (pv 2) pe_int)) pe_int) pa_nil)) pe_int))))
      (pss_one (ps_ret (pe_disp (pps_cons pe_str (pe_revL (pe_lc (own := [("cell", 2)]) (g := gName 2) rfl scSource.nd (pi_list (pv 0))
          (blkOk_by (own := [("cell", 2)]) (N := ["script", "mixed", "cell"]) (sc := defScope sSource) (by decide +kernel))
          (fun _ _ _ _ _ => pg_name (i := 2) scSource.nd rfl (Or.inl rfl)) (fun _ _ _ _ _ => pts_nil) (fun _ _ _ _ _ => pe_callB call_abs (by rfl) B.abs (by decide +kernel) (pa_cons (pv 2) pa_nil))))
        (pps_cons pe_str pe_int (pps_cons pe_str (pv 1) (pps_cons pe_str pe_int pps_nil)))) (by rfl) (by rfl) (fun z => by cases z) (by decide))))), ?_⟩
    walk_at "rd"
    refine ⟨⟨_, hS⟩, for_list (xs := ns.map V.int) (fun i σ H1 => ∃ m c3, σ = [some (.ref a), some (.int m), c3] ∧ H1 = H) ⟨11, none, rfl, rfl⟩ (fun i σ H1 _ h => ?_) (fun i x σ H1 hx h => ?_) (fun σ H1 h => ?_)⟩
    · obtain ⟨m, c3, rfl, rfl⟩ := h
      exact hS
    · obtain ⟨m, c3, rfl, rfl⟩ := h
      obtain ⟨z, hz, rfl⟩ := int_at hx
      walk_at "rd"
      refine ⟨mulr (by decide), ?_⟩
      walk_at "rd"
      refine ⟨mulr (by decide), ?_⟩
      walk_at "rd"
      refine .inl ?_
      walk_at "rd"
      refine ⟨by show (0 : Int) < 2147483629; decide, ?_⟩
      exact ⟨_, _, rfl, rfl⟩
    · obtain ⟨m, c3, rfl, rfl⟩ := h
      intro p np
      generalize eH : upd _ _ _ = H2
      obtain ⟨s2, e2⟩ := new_of eH np
      walk_at "rd"
      refine ⟨⟨_, s2.seq hS⟩, fun D nD => lc_list (K := K) (a := a) (xs := ns.map V.int) (fun i G => Same H2 G ∧ G D = some (.lst ((ns.take i).map fun z => V.int z.natAbs))) ?_ (fun i G _ h => h.1.seq (s2.seq hS)) (fun i x G hx h => ?_) (fun G h => ?_)⟩
      · exact ⟨same_new nD, upd_same⟩
      · obtain ⟨z, hz, rfl⟩ := int_at hx
        refine yesT rfl ?_
        walk_at "rd"
        refine ⟨_, h.2, ?_, fun b o e => ?_, ?_⟩
        · rw [List.length_map, List.length_take]
          exact small63 (by omega)
        · rw [upd_ne (ne_of_none e nD)]
          exact h.1 _ _ e
        · rw [upd_same, take_snoc hz, abs_eq]
      · obtain ⟨s3, e3⟩ := h
        walk_at "rd"
        refine ⟨_, _, rfl, .inl (.inl e3), fun c nc => ?_⟩
        generalize eH : upd _ _ _ = H4
        obtain ⟨s4, e4⟩ := new_of eH nc
        walk_at "rd"
        refine ⟨s4 _ _ (s3 _ _ e2), [(.inr "cells", .ref c), (.inr "left", .int 1), (.inr "mixed", .int m), (.inr "turn", .int 0)], rfl, (by show 4 ≤ 15; decide), ?_⟩
        have npc : c ≠ p := (ne_of_none (s3 _ _ e2) nc).symm
        refine q _ p c ⟨((ns.map fun z => (z.natAbs : Int)).reverse), 1, m, 0, ?_, ?_⟩ ?_ np ?_
        · rw [upd_same]
          refine congrArg (fun l => some (HO.dK l)) ?_
          simp [mergeK, putK, srcK, k12, k13, k14, k23, k24, k34]
        · rw [upd_ne npc, e4, List.length_map, List.take_length, List.map_reverse, List.map_map]
          rfl
        · intro b o e
          rw [upd_ne (ne_of_none e np)]
          exact s4 _ _ (s3 _ _ (s2 _ _ e))
        · exact (s2.trans s3).free nc
end
section
variable {P : Program} {w : World} {K : PySem.W.Frag} {mg : Str → Option Value} {base : Heap}
theorem ok_pick {f : Addr} {fd : FuncData} (F : Fun K "_law_pick" "_law_pick" sPick f fd) (B : Blt mg) : FnOk P w K mg base CX0 1 f fd ["source", "many"] spPick := by
  refine F.ok scPick (fun vs H Q E h => ?_) (fun cdv A outer s H vs Q E hr h => ?_)
  · obtain ⟨p, c, many, rfl, _⟩ := h
    rfl
  · obtain ⟨p, c, many, rfl, S, hm, q⟩ := h
    have hu := hu_of hr
    refine ⟨_, pss_cons (ps_while PassesOwn.never (PW.pt (pw_and (pt_cmpR op_gt (pv 1) pe_int (nomark _)) (pw_and (pt_cmpR op_lt (pe_dget hu (pv 0) pe_str (fun _ _ => rfl)) pe_int (nomark _))
          (pw_and1 (pt_cmpR op_gt (pe_callB call_len_seq (by rfl) B.len PySem.boot_len (pa_cons (pe_dget hu (pv 0) pe_str (fun _ _ => rfl)) pa_nil)) pe_int (nomark _))))))
        (pss_one (ps_dput hu (pv 0) pe_str (pe_bm0 PySem.F.plainAttrs_list PySem.F.slot_list_pop PySem.F.type_list_pop mt_pop (pe_dget hu (pv 0) pe_str (fun _ _ => rfl))) rfl)))
      (pss_cons (ps_set (i := 2) scPick.nd rfl (.inl rfl) (pe_dget hu (pv 0) pe_str (fun _ _ => rfl)))
      (pss_cons (ps_if (PW.pt (pw_or (pt_cmpR op_lt (pv 1) pe_int (nomark _)) (pw_or1 (pt_cmpR op_gt (pv 2) pe_int (nomark _)))))
        (pss_cons (ps_dput hu (pv 0) pe_str (pe_op op_fdivN (pv 2) (pe_callB (call_max2 rfl) (by rfl) B.max boot_max (pa_cons pe_int (pa_cons (pv 1) pa_nil)))) rfl)
          (pss_one (ps_ret (pe_op op_modN (pe_callTy call_int1 (by rfl) B.int (by decide +kernel) (pa_cons (pv 2) pa_nil)) (pe_callB (call_max2 rfl) (by rfl) B.max boot_max (pa_cons pe_int (pa_cons (pv 1) pa_nil))))))) pss_nil)
      (pss_cons (ps_dput hu (pv 0) pe_str (pe_op op_add (pe_dget hu (pv 0) pe_str (fun _ _ => rfl)) pe_int) rfl)
      (pss_cons (ps_set (i := 3) scPick.nd rfl (.inl rfl) (pe_op op_mod (pe_callTy call_int1 (by rfl) B.int (by decide +kernel) (pa_cons (pe_op op_add (pe_dget hu (pv 0) pe_str (fun _ _ => rfl)) (pe_op op_mul (pe_dget hu (pv 0) pe_str (fun _ _ => rfl)) pe_int)) pa_nil)) pe_int))
      (pss_cons (ps_set (i := 3) scPick.nd rfl (.inl rfl) (pe_op op_mod (pe_callTy call_int1 (by rfl) B.int (by decide +kernel) (pa_cons (pe_op op_add (pe_op op_mul (pv 3) (pv 3)) (pe_op op_mul (pe_dget hu (pv 0) pe_str (fun _ _ => rfl)) pe_int)) pa_nil)) pe_int))
      (pss_cons (ps_dput hu (pv 0) pe_str (pv 3) rfl)
      (pss_one (ps_ret (pe_op op_modN (pe_callTy call_int1 (by rfl) B.int (by decide +kernel) (pa_cons (pe_op op_fdiv (pv 3) pe_int) pa_nil)) (pv 1)))))))))), ?_⟩
    obtain ⟨cells, l, m, t, hp, hc⟩ := S.ex
    have npc := S.ne
    refine while3 (fun n σ H1 => ∃ (cs : List Int) (l : Int), σ = [some (.ref p), some (.int many), none, none] ∧ n = cs.length ∧ H1 p = some (.dK (srcK c l m t)) ∧ H1 c = some (.lst (cs.map V.int)) ∧ Off p c H H1)
      cells.length ⟨cells, l, rfl, rfl, hp, hc, Off.refl p c H⟩ (fun n σ H1 h => ?_) (fun aft n σ H1 h => ?_)
    · -- behind the loop
      obtain ⟨cs, l, rfl, rfl, hp, hc, off⟩ := h
      walk_at "rd"
      refine ⟨_, _, rfl, src_get hp src_left, ?_⟩
      have early : ∀ H2, H2 = upd H1 p (HO.dK (srcK c (l.fdiv (if many > 1 then many else 1)) m t)) → Q (.int (l.fmod (if many > 1 then many else 1))) H2 := by
        rintro H2 rfl
        have hb : 0 < (if many > 1 then many else 1) := by split <;> omega
        refine q _ _ ⟨cs, _, m, t, upd_same, (upd_ne npc.symm).trans hc⟩ (off.trans Off.at_p) (fmod_bounds hb).1 ?_
        have := fmod_bounds (a := l) hb
        by_cases h1 : many > 1
        · rw [if_pos h1] at this ⊢
          exact .inl this.2
        · rw [if_neg h1] at this ⊢
          exact .inr (by omega)
      have hd : CDivN l (if many > 1 then many else 1) := by
        constructor <;> split <;> omega
      walk_at "rd"
      refine ite2 (fun h1 => ?_) (fun h1 => ?_)
      · dsimp only
        refine ifT rfl ?_
        walk_at "rd"
        refine ⟨hd, _, rfl, _, _, rfl, src_put hp rfl put_left rfl, ?_⟩
        walk_at "rd"
        refine .inl ?_
        walk_at "rd"
        exact ⟨hd.1, early _ rfl⟩
      · walk_at "rd"
        refine ite2 (fun h2 => ?_) (fun h2 => ?_)
        · walk_at "rd"
          refine ⟨hd, _, rfl, _, _, rfl, src_put hp rfl put_left rfl, ?_⟩
          walk_at "rd"
          refine .inl ?_
          walk_at "rd"
          exact ⟨hd.1, early _ rfl⟩
        · have hm2 : 2 ≤ many := by
            have := of_decide_eq_false (Bool.eq_false_iff.mpr h1)
            omega
          walk_at "rd"
          refine ⟨_, _, rfl, src_get hp src_turn, ?_⟩
          walk_at "rd"
          refine ⟨_, _, rfl, src_put hp rfl put_turn rfl, ?_⟩
          generalize eH : upd _ _ _ = H2
          obtain ⟨hp2, of2⟩ := chg eH
          have hc2 := (of2 c npc.symm).trans hc
          walk_at "rd"
          refine ⟨_, _, rfl, src_get hp2 src_mixed, ?_⟩
          walk_at "rd"
          refine ⟨_, _, rfl, src_get hp2 src_turn, ?_⟩
          walk_at "rd"
          refine ⟨mulr (by decide), ?_⟩
          walk_at "rd"
          refine .inl ?_
          walk_at "rd"
          refine ⟨by show (0 : Int) < 998244353; decide, ?_⟩
          have mb := Int.emod_lt_of_pos (m + (t + 1) * 104729) (show (0 : Int) < 998244353 by decide)
          have mb0 := Int.emod_nonneg (m + (t + 1) * 104729) (show (998244353 : Int) ≠ 0 by decide)
          walk_at "rd"
          refine ⟨mulr (by omega), ?_⟩
          walk_at "rd"
          refine ⟨_, _, rfl, src_get hp2 src_turn, ?_⟩
          walk_at "rd"
          refine ⟨mulr (by decide), ?_⟩
          walk_at "rd"
          refine .inl ?_
          walk_at "rd"
          refine ⟨by show (0 : Int) < 2147483647; decide, ?_⟩
          walk_at "rd"
          refine ⟨_, _, rfl, src_put hp2 rfl put_mixed rfl, ?_⟩
          generalize eH3 : upd _ _ _ = H3
          obtain ⟨hp3, of3⟩ := chg eH3
          have hc3 := (of3 c npc.symm).trans hc2
          walk_at "rd"
          refine ⟨by constructor <;> decide, ?_⟩
          walk_at "rd"
          refine .inl ?_
          walk_at "rd"
          refine ⟨by omega, ?_⟩
          have fb := fun a : Int => fmod_bounds (a := a) (show 0 < many by omega)
          refine q _ _ ⟨cs, _, _, _, hp3, hc3⟩ (off.trans (fun b o h1 h2 e => ?_)) (fb _).1 (.inl (fb _).2)
          rw [of3 b h1, of2 b h1]
          exact e
    · obtain ⟨cs, l, rfl, rfl, hp, hc, off⟩ := h
      walk_at "rd"
      refine ite2 (fun h1 => ?_) (fun h1 => ?_)
      · walk_at "rd"
        refine ⟨_, _, rfl, src_get hp src_left, ?_⟩
        walk_at "rd"
        refine ite2 (fun h2 => ?_) (fun h2 => ?_)
        · walk_at "rd"
          refine ⟨_, _, rfl, src_get hp src_cells, ?_⟩
          refine ⟨_, _, rfl, .inl (.inl (.inl hc)), ?_⟩
          walk_at "rd"
          refine ite2 (fun h3 => ?_) (fun h3 => ?_)
          · refine ⟨_, fun σ' H' h => ⟨cs.length - 1, ?_, h⟩, ?_⟩
            · have := of_decide_eq_true h3
              rw [List.length_map] at this
              omega
            · walk_at "rd"
              refine ⟨_, _, rfl, src_get hp src_cells, ?_⟩
              have hne : cs ≠ [] := by
                rintro rfl
                exact absurd (of_decide_eq_true h3) (by decide)
              obtain ⟨z, hz⟩ : ∃ z, cs[cs.length - 1]? = some z := by
                refine ⟨cs[cs.length - 1]'(by have := List.length_pos_iff.mpr hne; omega), ?_⟩
                rw [List.getElem?_eq_getElem]
              refine ⟨.inl ⟨rfl, _, .inl (.inl hc)⟩, _, _, .int z, rfl, rfl, hc, ?_, ?_⟩
              · rw [List.length_map, List.getElem?_map, hz]
                rfl
              generalize eH : upd _ _ _ = H2
              obtain ⟨hc2, of2⟩ := chg eH
              have hp2 := (of2 p npc).trans hp
              refine ⟨_, rfl, _, _, rfl, src_put hp2 rfl put_left rfl, cs.dropLast, z, rfl, ?_, upd_same, ?_, off.trans (fun b o h1 h2 e => ?_)⟩
              · rw [List.length_dropLast]
              · rw [upd_ne npc.symm, hc2, List.map_dropLast]
              · rw [upd_ne h1, of2 b h2]
                exact e
          · exact aft _ _ _ ⟨cs, l, rfl, rfl, hp, hc, off⟩
        · exact aft _ _ _ ⟨cs, l, rfl, rfl, hp, hc, off⟩
      · exact aft _ _ _ ⟨cs, l, rfl, rfl, hp, hc, off⟩
end
end K16
set_option Elab.async false
set_option linter.all false
set_option maxRecDepth 100000
set_option maxHeartbeats 1000000
namespace K16
open PySem PySem.Spec PyProof.Rows L2 WK
abbrev sCo : Stmt := topS 5
abbrev sWo : Stmt := topS 8
abbrev sWi : Stmt := topS 9
abbrev sSu : Stmt := topS 10
abbrev sLo : Stmt := topS 11
abbrev sHi : Stmt := topS 12
abbrev sLe : Stmt := topS 13
abbrev sBo : Stmt := topS 14
abbrev sHw : Stmt := topS 15
abbrev sHs : Stmt := topS 16
abbrev sHe : Stmt := topS 17
abbrev sAf : Stmt := topS 18
abbrev sWs : Stmt := topS 19
abbrev sLc : Stmt := topS 20
abbrev sLt : Stmt := topS 21
abbrev sPl : Stmt := topS 23
theorem scCo : FnScope ["slot", "x", "need", "most", "first", "slopes"] ["slot", "x"] (defScope sCo) := ⟨rfl, rfl, rfl, by decide +kernel, rfl, by decide +kernel, by decide +kernel⟩
theorem scWo : FnScope ["work", "x"] ["work", "x"] (defScope sWo) := ⟨rfl, rfl, rfl, by decide +kernel, rfl, by decide +kernel, by decide +kernel⟩
theorem scWi : FnScope ["work", "low", "high"] ["work", "low", "high"] (defScope sWi) := ⟨rfl, rfl, rfl, by decide +kernel, rfl, by decide +kernel, by decide +kernel⟩
theorem scSu : FnScope ["one", "other", "low", "high", "slopes", "others", "sums", "slope", "more"] ["one", "other"] (defScope sSu) := ⟨rfl, rfl, rfl, by decide +kernel, rfl, by decide +kernel, by decide +kernel⟩
theorem scLo : FnScope ["work", "slope"] ["work"] (defScope sLo) := ⟨rfl, rfl, rfl, by decide +kernel, rfl, by decide +kernel, by decide +kernel⟩
theorem scHi : FnScope ["work", "b", "slope"] ["work", "b"] (defScope sHi) := ⟨rfl, rfl, rfl, by decide +kernel, rfl, by decide +kernel, by decide +kernel⟩
theorem scLe : FnScope ["work"] ["work"] (defScope sLe) := ⟨rfl, rfl, rfl, by decide +kernel, rfl, by decide +kernel, by decide +kernel⟩
theorem scBo : FnScope ["slopes", "b", "slope"] ["slopes", "b"] (defScope sBo) := ⟨rfl, rfl, rfl, by decide +kernel, rfl, by decide +kernel, by decide +kernel⟩
theorem scHw : FnScope ["work", "b", "x", "low", "high", "_", "slopes", "within"] ["work", "b", "x"] (defScope sHw) := ⟨rfl, rfl, rfl, by decide +kernel, rfl, by decide +kernel, by decide +kernel⟩
theorem scHs : FnScope ["work", "b", "low", "high", "begin", "end", "_", "slopes", "within", "below", "above"] ["work", "b", "low", "high"] (defScope sHs) := ⟨rfl, rfl, rfl, by decide +kernel, rfl, by decide +kernel, by decide +kernel⟩
theorem scHe : FnScope ["work", "b", "low", "high"] ["work", "b", "low", "high"] (defScope sHe) := ⟨rfl, rfl, rfl, by decide +kernel, rfl, by decide +kernel, by decide +kernel⟩
theorem scAf : FnScope ["work", "slot", "b"] ["work", "slot", "b"] (defScope sAf) := ⟨rfl, rfl, rfl, by decide +kernel, rfl, by decide +kernel, by decide +kernel⟩
theorem scWs : FnScope ["slots", "b", "works", "work", "slot"] ["slots", "b"] (defScope sWs) := ⟨rfl, rfl, rfl, by decide +kernel, rfl, by decide +kernel, by decide +kernel⟩
theorem scLc : FnScope ["slots", "b", "work"] ["slots", "b"] (defScope sLc) := ⟨rfl, rfl, rfl, by decide +kernel, rfl, by decide +kernel, by decide +kernel⟩
theorem scLt : FnScope ["slots", "b"] ["slots", "b"] (defScope sLt) := ⟨rfl, rfl, rfl, by decide +kernel, rfl, by decide +kernel, by decide +kernel⟩
theorem scPl : FnScope ["need", "most", "price"] ["need", "most", "price"] (defScope sPl) := ⟨rfl, rfl, rfl, by decide +kernel, rfl, by decide +kernel, by decide +kernel⟩
structure Wks (K : PySem.W.Frag) (mg : Str → Option Value) (fCo fWo fWi fSu fLo fHi fLe fBo fHw fHs fHe fAf fWs fLc fLt fPl aNOTHING aE : Addr) (dCo dWo dWi dSu dLo dHi dLe dBo dHw dHs dHe dAf dWs dLc dLt dPl : FuncData) : Prop where
  FCo : Fun K "slot_cost" "slot_cost" sCo fCo dCo
  bCo : Binds K dCo ["slot", "x"] []
  gCo : mg "slot_cost" = some (.ref fCo)
  FWo : Fun K "worth_at" "worth_at" sWo fWo dWo
  bWo : Binds K dWo ["work", "x"] []
  gWo : mg "worth_at" = some (.ref fWo)
  FWi : Fun K "slopes_within" "slopes_within" sWi fWi dWi
  bWi : Binds K dWi ["work", "low", "high"] []
  gWi : mg "slopes_within" = some (.ref fWi)
  FSu : Fun K "sum_of" "sum_of" sSu fSu dSu
  bSu : Binds K dSu ["one", "other"] []
  gSu : mg "sum_of" = some (.ref fSu)
  FLo : Fun K "low_of" "low_of" sLo fLo dLo
  bLo : Binds K dLo ["work"] []
  gLo : mg "low_of" = some (.ref fLo)
  FHi : Fun K "high_of" "high_of" sHi fHi dHi
  bHi : Binds K dHi ["work", "b"] []
  gHi : mg "high_of" = some (.ref fHi)
  FLe : Fun K "least_worth" "least_worth" sLe fLe dLe
  bLe : Binds K dLe ["work"] []
  gLe : mg "least_worth" = some (.ref fLe)
  FBo : Fun K "bounded" "bounded" sBo fBo dBo
  bBo : Binds K dBo ["slopes", "b"] []
  gBo : mg "bounded" = some (.ref fBo)
  FHw : Fun K "held_worth" "held_worth" sHw fHw dHw
  bHw : Binds K dHw ["work", "b", "x"] []
  gHw : mg "held_worth" = some (.ref fHw)
  FHs : Fun K "held_slopes" "held_slopes" sHs fHs dHs
  bHs : Binds K dHs ["work", "b", "low", "high"] []
  gHs : mg "held_slopes" = some (.ref fHs)
  FHe : Fun K "held" "held" sHe fHe dHe
  bHe : Binds K dHe ["work", "b", "low", "high"] []
  gHe : mg "held" = some (.ref fHe)
  FAf : Fun K "work_after" "work_after" sAf fAf dAf
  bAf : Binds K dAf ["work", "slot", "b"] []
  gAf : mg "work_after" = some (.ref fAf)
  FWs : Fun K "works_of" "works_of" sWs fWs dWs
  bWs : Binds K dWs ["slots", "b"] []
  gWs : mg "works_of" = some (.ref fWs)
  FLc : Fun K "least_costs" "least_costs" sLc fLc dLc
  bLc : Binds K dLc ["slots", "b"] []
  gLc : mg "least_costs" = some (.ref fLc)
  FLt : Fun K "least_cost" "least_cost" sLt fLt dLt
  bLt : Binds K dLt ["slots", "b"] []
  gLt : mg "least_cost" = some (.ref fLt)
  FPl : Fun K "plain_slot" "plain_slot" sPl fPl dPl
  bPl : Binds K dPl ["need", "most", "price"] []
  gPl : mg "plain_slot" = some (.ref fPl)
  gNOTHING : mg "NOTHING" = some (.ref aNOTHING)
  nN : ∀ H, SqT K H aNOTHING [.int 0, .int 0, .int 0, .ref aE]
  nE : ∀ H, SqT K H aE []
section
variable {P : Program} {w : World} {K : PySem.W.Frag} {mg : Str → Option Value} {base : Heap} {fCo fWo fWi fSu fLo fHi fLe fBo fHw fHs fHe fAf fWs fLc fLt fPl aNOTHING aE : Addr} {dCo dWo dWi dSu dLo dHi dLe dBo dHw dHs dHe dAf dWs dLc dLt dPl : FuncData}
end
end K16
set_option Elab.async false
set_option linter.all false
set_option maxRecDepth 100000
set_option maxHeartbeats 1000000
namespace K16
open PySem PySem.Spec PyProof.Rows L2 WK
local macro_rules | `(tactic| walk_at "rd") => `(tactic| repeat (first | refine Exists.intro _ (And.intro rfl ?_) | refine Exists.intro _ (Exists.intro _ (And.intro rfl (And.intro rfl ?_))) | refine Exists.intro _ (Exists.intro _ (And.intro rfl ?_))))
section
variable {P : Program} {w : World} {K : PySem.W.Frag} {mg : Str → Option Value} {base : Heap} {fCo fWo fWi fSu fLo fHi fLe fBo fHw fHs fHe fAf fWs fLc fLt fPl aNOTHING aE : Addr} {dCo dWo dWi dSu dLo dHi dLe dBo dHw dHs dHe dAf dWs dLc dLt dPl : FuncData}
theorem ok_cost (D : Wks K mg fCo fWo fWi fSu fLo fHi fLe fBo fHw fHs fHe fAf fWs fLc fLt fPl aNOTHING aE dCo dWo dWi dSu dLo dHi dLe dBo dHw dHs dHe dAf dWs dLc dLt dPl) (B : Blt mg) : FnOk P w K mg base CX0 1 fCo dCo ["slot", "x"] (spCostK K) := by
  refine D.FCo.ok scCo (fun vs H Q E h => ?_) (fun cdv A outer s H vs Q E hr h => ?_)
  · obtain ⟨t, x, sl, rfl, _⟩ := h
    rfl
  · obtain ⟨t, x, sl, rfl, hs, q⟩ := h
    obtain ⟨t, u, rfl, h1, h2⟩ := hs
    refine ⟨_, (pss_cons (ps_asg (pv 0) (pg_tup rfl (pgs_cons (pg_name (i := 2) scCo.nd rfl (.inl rfl)) (pgs_cons (pg_name (i := 3) scCo.nd rfl (.inl rfl)) (pgs_cons (pg_name (i := 4) scCo.nd rfl (.inl rfl)) (pgs_cons (pg_name (i := 5) scCo.nd rfl (.inl rfl)) pgs_nil))))))
      (pss_cons (ps_if (PW.pt (pw_or (pt_cmpR op_lt (pv 1) (pv 2) (nomark _)) (pw_or1 (pt_cmpR op_gt (pv 1) (pv 3) (nomark _)))))
        (pss_one (ps_ret pe_non))
        pss_nil)
      (pss_one (ps_ret (pe_op op_add (pv 4) (pe_callB (r := rSumT K) (cr_sumT rfl) (by rfl) B.sum (by decide +kernel) (pa_cons (pe_slice (r := rSlA K) sl_tupA (pv 5) po_none (po_some (pe_op op_sub (pv 1) (pv 2)))) pa_nil))))))), ?_⟩
    walk_at "rd"
    refine ⟨_, _, rfl, h1, rfl, _, _, rfl, _, _, rfl, _, _, rfl, _, _, rfl, rfl, ?_⟩
    walk_at "rd"
    refine ite2 (fun a1 => ?_) (fun a1 => ?_)
    · dsimp only
      refine ifT rfl ?_
      have e : costV sl x = .non := by
        unfold costV fitB
        rw [decide_eq_false (by have := of_decide_eq_true a1; omega)]
        rfl
      rw [← e]
      exact q H (Same.refl _)
    · walk_at "rd"
      refine ite2 (fun a2 => ?_) (fun a2 => ?_)
      · have e : costV sl x = .non := by
          unfold costV fitB
          rw [decide_eq_false (p := x ≤ sl.most) (by have := of_decide_eq_true a2; omega), Bool.and_false]
          rfl
        have := q H (Same.refl _)
        rw [e] at this
        exact this
      · have b1 : sl.need ≤ x := by
          have := of_decide_eq_false (Bool.eq_false_iff.mpr a1)
          omega
        have b2 : x ≤ sl.most := by
          have := of_decide_eq_false (Bool.eq_false_iff.mpr a2)
          omega
        have e : costV sl x = .int (costAt sl x) := by
          unfold costV fitB
          rw [decide_eq_true b1, decide_eq_true b2]
          rfl
        walk_at "rd"
        refine slB h2 fun p G sG eG => ?_
        rw [cut_int (by omega), ← List.map_take] at eG
        refine ⟨_, _, rfl, eG, ?_⟩
        walk_at "rd"
        have := q G sG
        rw [e] at this
        exact this
theorem ok_worth (D : Wks K mg fCo fWo fWi fSu fLo fHi fLe fBo fHw fHs fHe fAf fWs fLc fLt fPl aNOTHING aE dCo dWo dWi dSu dLo dHi dLe dBo dHw dHs dHe dAf dWs dLc dLt dPl) (B : Blt mg) : FnOk P w K mg base CX0 2 fWo dWo ["work", "x"] (spCostK K) := by
  have GCo : FnOk P w K mg base CX0 1 fCo dCo ["slot", "x"] (spCostK K) := ok_cost D B
  refine D.FWo.ok scWo (fun vs H Q E h => ?_) (fun cdv A outer s H vs Q E hr h => ?_)
  · obtain ⟨t, x, sl, rfl, _⟩ := h
    rfl
  · obtain ⟨t, x, sl, rfl, hs, q⟩ := h
    have hrCo := hr
    refine ⟨_, (pss_one (ps_ret (pe_call GCo hrCo (by rfl) D.gCo D.FCo.kp D.bCo .nil pass0 (pa_cons (pv 0) (pa_cons (pv 1) pa_nil))))), ?_⟩
    walk_at "rd"
    exact ⟨t, x, sl, rfl, hs, q⟩
theorem ok_within (D : Wks K mg fCo fWo fWi fSu fLo fHi fLe fBo fHw fHs fHe fAf fWs fLc fLt fPl aNOTHING aE dCo dWo dWi dSu dLo dHi dLe dBo dHw dHs dHe dAf dWs dLc dLt dPl) (B : Blt mg) : FnOk P w K mg base CX0 1 fWi dWi ["work", "low", "high"] (spWithin K) := by
  refine D.FWi.ok scWi (fun vs H Q E h => ?_) (fun cdv A outer s H vs Q E hr h => ?_)
  · obtain ⟨t, lo, hi, sl, rfl, _⟩ := h
    rfl
  · obtain ⟨t, lo, hi, sl, rfl, hs, hL, c1, c2, c3, q⟩ := h
    obtain ⟨t, u, rfl, h1, h2⟩ := hs
    refine ⟨_, (pss_one (ps_ret (pe_slice (r := rSlA K) sl_tupA (pe_ix (r := rIxT K) ix_tup (pv 0) pe_int (fun _ _ => rfl)) (po_some (pe_op op_sub (pv 1) (pe_ix (r := rIxT K) ix_tup (pv 0) pe_int (fun _ _ => rfl)))) (po_some (pe_op op_sub (pv 2) (pe_ix (r := rIxT K) ix_tup (pv 0) pe_int (fun _ _ => rfl))))))), ?_⟩
    walk_at "rd"
    refine ⟨_, _, _, _, rfl, rfl, h1, atI_nat (j := 3) rfl, ?_⟩
    walk_at "rd"
    refine ⟨_, _, _, _, rfl, rfl, h1, atI_nat (j := 0) rfl, ?_⟩
    walk_at "rd"
    refine ⟨_, _, _, _, rfl, rfl, h1, atI_nat (j := 0) rfl, ?_⟩
    walk_at "rd"
    refine slB h2 fun p G sG eG => ?_
    rw [cut_win hL c1 c2 c3] at eG
    exact q G p sG eG
theorem ok_low (D : Wks K mg fCo fWo fWi fSu fLo fHi fLe fBo fHw fHs fHe fAf fWs fLc fLt fPl aNOTHING aE dCo dWo dWi dSu dLo dHi dLe dBo dHw dHs dHe dAf dWs dLc dLt dPl) (B : Blt mg) : FnOk P w K mg base CX0 1 fLo dLo ["work"] (spLow K) := by
  refine D.FLo.ok scLo (fun vs H Q E h => ?_) (fun cdv A outer s H vs Q E hr h => ?_)
  · obtain ⟨t, sl, rfl, _⟩ := h
    rfl
  · obtain ⟨t, sl, rfl, hs, hl, q⟩ := h
    obtain ⟨t, u, rfl, h1, h2⟩ := hs
    refine ⟨_, (pss_one (ps_ret (pe_op op_add (pe_ix (r := rIxT K) ix_tup (pv 0) pe_int (fun _ _ => rfl)) (pe_callB call_len_seq (by rfl) B.len PySem.boot_len (pa_cons (pe_lc (own := [("slope", 1)]) (g := gName 1) rfl scLo.nd (pi_tup (pe_ix (r := rIxT K) ix_tup (pv 0) pe_int (fun _ _ => rfl))) (blkOk_by (own := [("slope", 1)]) (N := ["work", "slope"]) (sc := defScope sLo) (by decide +kernel)) (fun _ _ _ _ _ => (pg_name (i := 1) scLo.nd rfl (.inl rfl))) (fun _ _ _ _ _ => pts_one (pt_cmpR op_lt (pv 1) pe_int (nomark _))) (fun _ _ _ _ _ => (pv 1))) pa_nil))))), ?_⟩
    walk_at "rd"
    refine ⟨_, _, _, _, rfl, rfl, h1, atI_nat (j := 0) rfl, ?_⟩
    walk_at "rd"
    refine ⟨_, _, _, _, rfl, rfl, h1, atI_nat (j := 3) rfl, ?_⟩
    walk_at "rd"
    refine ⟨⟨_, h2⟩, fun D nD => lc_tup (K := K) (a := u) (xs := sl.slopes.map V.int) (fun i G => Same H G ∧ G D = some (.lst (((sl.slopes.take i).filter (fun z => decide (z < 0))).map V.int))) ?_ (fun i G _ h => sq_same h.1 h2) (fun i x G hx h => ?_) (fun G h => ?_)⟩
    · exact ⟨same_new nD, upd_same⟩
    · obtain ⟨g, e⟩ := h
      obtain ⟨z, hz, rfl⟩ := int_at hx
      refine ⟨rfl, ?_⟩
      walk_at "rd"
      refine ite2 (fun c => ?_) (fun c => ?_)
      · walk_at "rd"
        refine ⟨_, e, ?_, fun b o e' => ?_, ?_⟩
        · rw [List.length_map]
          exact many_small (Nat.le_trans filt_len (by omega))
        · rw [upd_ne (ne_of_none e' nD)]
          exact g _ _ e'
        · rw [upd_same, filt_yes hz c]
      · refine ⟨g, ?_⟩
        rw [filt_no hz c]
        exact e
    · obtain ⟨g, e⟩ := h
      rw [List.length_map, ← List.length_map (f := V.int), List.length_map, List.take_length] at e
      refine ⟨_, _, rfl, .inl (.inl (.inl e)), ?_⟩
      walk_at "rd"
      have := q G g
      unfold lowW at this
      rw [List.length_map]
      exact this
theorem ok_high (D : Wks K mg fCo fWo fWi fSu fLo fHi fLe fBo fHw fHs fHe fAf fWs fLc fLt fPl aNOTHING aE dCo dWo dWi dSu dLo dHi dLe dBo dHw dHs dHe dAf dWs dLc dLt dPl) (B : Blt mg) : FnOk P w K mg base CX0 1 fHi dHi ["work", "b"] (spHigh K) := by
  refine D.FHi.ok scHi (fun vs H Q E h => ?_) (fun cdv A outer s H vs Q E hr h => ?_)
  · obtain ⟨t, b, sl, rfl, _⟩ := h
    rfl
  · obtain ⟨t, b, sl, rfl, hs, hl, q⟩ := h
    obtain ⟨t, u, rfl, h1, h2⟩ := hs
    refine ⟨_, (pss_one (ps_ret (pe_op op_add (pe_ix (r := rIxT K) ix_tup (pv 0) pe_int (fun _ _ => rfl)) (pe_callB call_len_seq (by rfl) B.len PySem.boot_len (pa_cons (pe_lc (own := [("slope", 2)]) (g := gName 2) rfl scHi.nd (pi_tup (pe_ix (r := rIxT K) ix_tup (pv 0) pe_int (fun _ _ => rfl))) (blkOk_by (own := [("slope", 2)]) (N := ["work", "b", "slope"]) (sc := defScope sHi) (by decide +kernel)) (fun _ _ _ _ _ => (pg_name (i := 2) scHi.nd rfl (.inl rfl))) (fun _ _ _ _ _ => pts_one (pt_cmpR op_le (pv 2) (pv 1) (nomark _))) (fun _ _ _ _ _ => (pv 2))) pa_nil))))), ?_⟩
    walk_at "rd"
    refine ⟨_, _, _, _, rfl, rfl, h1, atI_nat (j := 0) rfl, ?_⟩
    walk_at "rd"
    refine ⟨_, _, _, _, rfl, rfl, h1, atI_nat (j := 3) rfl, ?_⟩
    walk_at "rd"
    refine ⟨⟨_, h2⟩, fun D nD => lc_tup (K := K) (a := u) (xs := sl.slopes.map V.int) (fun i G => Same H G ∧ G D = some (.lst (((sl.slopes.take i).filter (fun z => decide (z ≤ b))).map V.int))) ?_ (fun i G _ h => sq_same h.1 h2) (fun i x G hx h => ?_) (fun G h => ?_)⟩
    · exact ⟨same_new nD, upd_same⟩
    · obtain ⟨g, e⟩ := h
      obtain ⟨z, hz, rfl⟩ := int_at hx
      refine ⟨rfl, ?_⟩
      walk_at "rd"
      refine ite2 (fun c => ?_) (fun c => ?_)
      · walk_at "rd"
        refine ⟨_, e, ?_, fun b' o e' => ?_, ?_⟩
        · rw [List.length_map]
          exact many_small (Nat.le_trans filt_len (by omega))
        · rw [upd_ne (ne_of_none e' nD)]
          exact g _ _ e'
        · rw [upd_same, filt_yes hz c]
      · refine ⟨g, ?_⟩
        rw [filt_no hz c]
        exact e
    · obtain ⟨g, e⟩ := h
      rw [List.length_map, ← List.length_map (f := V.int), List.length_map, List.take_length] at e
      refine ⟨_, _, rfl, .inl (.inl (.inl e)), ?_⟩
      walk_at "rd"
      have := q G g
      unfold highW at this
      rw [List.length_map]
      exact this
theorem ok_least (D : Wks K mg fCo fWo fWi fSu fLo fHi fLe fBo fHw fHs fHe fAf fWs fLc fLt fPl aNOTHING aE dCo dWo dWi dSu dLo dHi dLe dBo dHw dHs dHe dAf dWs dLc dLt dPl) (B : Blt mg) : FnOk P w K mg base CX0 3 fLe dLe ["work"] (spLeast K) := by
  have GWo : FnOk P w K mg base CX0 2 fWo dWo ["work", "x"] (spCostK K) := ok_worth D B
  have GLo : FnOk P w K mg base CX0 1 fLo dLo ["work"] (spLow K) := ok_low D B
  refine D.FLe.ok scLe (fun vs H Q E h => ?_) (fun cdv A outer s H vs Q E hr h => ?_)
  · obtain ⟨t, sl, rfl, _⟩ := h
    rfl
  · obtain ⟨t, sl, rfl, hs, hl, q⟩ := h
    have hrWo := hr
    have hrLo := hr.mono (show 1 ≤ 2 by decide)
    refine ⟨_, (pss_one (ps_ret (pe_call GWo hrWo (by rfl) D.gWo D.FWo.kp D.bWo .nil pass0 (pa_cons (pv 0) (pa_cons (pe_call GLo hrLo (by rfl) D.gLo D.FLo.kp D.bLo .nil pass0 (pa_cons (pv 0) pa_nil)) pa_nil))))), ?_⟩
    walk_at "rd"
    refine ⟨t, sl, rfl, hs, by have := hl.len; have := hl.wide; omega, fun G g => ?_⟩
    walk_at "rd"
    refine ⟨t, _, sl, rfl, hs.same g, fun G2 g2 => ?_⟩
    have e : costV sl (lowW sl) = .int (leastW sl) := by
      unfold costV fitB
      rw [decide_eq_true (low_in hl).1, decide_eq_true (low_in hl).2]
      rfl
    rw [e]
    exact q G2 (g.trans g2)
theorem ok_bounded (D : Wks K mg fCo fWo fWi fSu fLo fHi fLe fBo fHw fHs fHe fAf fWs fLc fLt fPl aNOTHING aE dCo dWo dWi dSu dLo dHi dLe dBo dHw dHs dHe dAf dWs dLc dLt dPl) (B : Blt mg) : FnOk P w K mg base CX0 1 fBo dBo ["slopes", "b"] (spBounded K) := by
  refine D.FBo.ok scBo (fun vs H Q E h => ?_) (fun cdv A outer s H vs Q E hr h => ?_)
  · obtain ⟨p, b, l, rfl, _⟩ := h
    rfl
  · obtain ⟨u, b, l, rfl, h2, hl, q⟩ := h
    refine ⟨_, (pss_one (ps_ret (pe_callTy call_tuple_of (by rfl) B.tuple (by decide +kernel) (pa_cons (pe_lc (own := [("slope", 2)]) (g := gName 2) rfl scBo.nd (pi_tup (pv 0)) (blkOk_by (own := [("slope", 2)]) (N := ["slopes", "b", "slope"]) (sc := defScope sBo) (by decide +kernel)) (fun _ _ _ _ _ => (pg_name (i := 2) scBo.nd rfl (.inl rfl))) (fun _ _ _ _ _ => pts_nil) (fun _ _ _ _ _ => (pe_callB (call_min2 rfl) (by rfl) B.min boot_min (pa_cons (pe_callB (call_max2 rfl) (by rfl) B.max boot_max (pa_cons pe_int (pa_cons (pv 2) pa_nil))) (pa_cons (pv 1) pa_nil))))) pa_nil)))), ?_⟩
    walk_at "rd"
    refine ⟨⟨_, h2⟩, fun D nD => lc_tup (K := K) (a := u) (xs := l.map V.int) (fun i G => Same H G ∧ G D = some (.lst ((clampL (l.take i) b).map V.int))) ?_ (fun i G _ h => sq_same h.1 h2) (fun i x G hx h => ?_) (fun G h => ?_)⟩
    · exact ⟨same_new nD, upd_same⟩
    · obtain ⟨g, e⟩ := h
      obtain ⟨z, hz, rfl⟩ := int_at hx
      refine yesT rfl ?_
      walk_at "rd"
      refine ⟨_, e, ?_, fun b' o e' => ?_, ?_⟩
      · unfold clampL
        rw [List.length_map, List.length_map, List.length_take]
        exact many_small (by omega)
      · rw [upd_ne (ne_of_none e' nD)]
        exact g _ _ e'
      · rw [upd_same]
        unfold clampL
        rw [take_snoc hz, List.map_append]
        rfl
    · obtain ⟨g, e⟩ := h
      rw [List.length_map, List.take_length] at e
      refine ⟨_, _, rfl, .inl ⟨.inl (.inl e), fun p np => ?_⟩⟩
      generalize eH : upd _ _ _ = G2
      obtain ⟨g2, e2⟩ := new_of eH np
      exact q G2 p (g.trans g2) (sq_of e2)
end
end K16
set_option Elab.async false
set_option linter.all false
set_option maxRecDepth 100000
set_option maxHeartbeats 1000000
namespace K16
open PySem PySem.Spec PyProof.Rows L2 WK
local macro_rules | `(tactic| walk_at "rd") => `(tactic| repeat (first | refine Exists.intro _ (And.intro rfl ?_) | refine Exists.intro _ (Exists.intro _ (And.intro rfl (And.intro rfl ?_))) | refine Exists.intro _ (Exists.intro _ (And.intro rfl ?_))))
section
variable {P : Program} {w : World} {K : PySem.W.Frag} {mg : Str → Option Value} {base : Heap} {fCo fWo fWi fSu fLo fHi fLe fBo fHw fHs fHe fAf fWs fLc fLt fPl aNOTHING aE : Addr} {dCo dWo dWi dSu dLo dHi dLe dBo dHw dHs dHe dAf dWs dLc dLt dPl : FuncData}
theorem ok_sum (D : Wks K mg fCo fWo fWi fSu fLo fHi fLe fBo fHw fHs fHe fAf fWs fLc fLt fPl aNOTHING aE dCo dWo dWi dSu dLo dHi dLe dBo dHw dHs dHe dAf dWs dLc dLt dPl) (B : Blt mg) : FnOk P w K mg base CX0 3 fSu dSu ["one", "other"] (spSum K) := by
  have GWo : FnOk P w K mg base CX0 2 fWo dWo ["work", "x"] (spCostK K) := ok_worth D B
  have GWi : FnOk P w K mg base CX0 1 fWi dWi ["work", "low", "high"] (spWithin K) := ok_within D B
  refine D.FSu.ok scSu (fun vs H Q E h => ?_) (fun cdv A outer s H vs Q E hr h => ?_)
  · obtain ⟨t, u, a, b, rfl, _⟩ := h
    rfl
  · obtain ⟨t, u, a, b, rfl, ha, hb, la, lb, q0, q1⟩ := h
    have hrWo := hr
    have hrWi := hr.mono (show 1 ≤ 2 by decide)
    refine ⟨_, (pss_cons (ps_set (i := 2) scSu.nd rfl (.inl rfl) (pe_callB (call_max2 rfl) (by rfl) B.max boot_max (pa_cons (pe_ix (r := rIxT K) ix_tup (pv 0) pe_int (fun _ _ => rfl)) (pa_cons (pe_ix (r := rIxT K) ix_tup (pv 1) pe_int (fun _ _ => rfl)) pa_nil))))
      (pss_cons (ps_set (i := 3) scSu.nd rfl (.inl rfl) (pe_callB (call_min2 rfl) (by rfl) B.min boot_min (pa_cons (pe_ix (r := rIxT K) ix_tup (pv 0) pe_int (fun _ _ => rfl)) (pa_cons (pe_ix (r := rIxT K) ix_tup (pv 1) pe_int (fun _ _ => rfl)) pa_nil))))
      (pss_cons (ps_if (pt_cmpR op_gt (pv 2) (pv 3) (nomark _))
        (pss_one (ps_ret pe_non))
        pss_nil)
      (pss_cons (ps_set (i := 4) scSu.nd rfl (.inl rfl) (pe_call GWi hrWi (by rfl) D.gWi D.FWi.kp D.bWi .nil pass0 (pa_cons (pv 0) (pa_cons (pv 2) (pa_cons (pv 3) pa_nil)))))
      (pss_cons (ps_set (i := 5) scSu.nd rfl (.inl rfl) (pe_call GWi hrWi (by rfl) D.gWi D.FWi.kp D.bWi .nil pass0 (pa_cons (pv 1) (pa_cons (pv 2) (pa_cons (pv 3) pa_nil)))))
      (pss_cons (ps_set (i := 6) scSu.nd rfl (.inl rfl) (pe_callTy call_tuple_of (by rfl) B.tuple (by decide +kernel) (pa_cons (pe_lc (own := [("slope", 7), ("more", 8)]) (g := gTup K 2 (gCons (gName 7) (gCons (gName 8) gNil))) rfl scSu.nd (RZ.pi_zipA (by rfl) B.zip (pa_cons (pv 4) (pa_cons (pv 5) pa_nil))) (blkOk_by (own := [("slope", 7), ("more", 8)]) (N := ["one", "other", "low", "high", "slopes", "others", "sums", "slope", "more"]) (sc := defScope sSu) (by decide +kernel)) (fun _ _ _ _ _ => (pg_tup rfl (pgs_cons (pg_name (i := 7) scSu.nd rfl (.inl rfl)) (pgs_cons (pg_name (i := 8) scSu.nd rfl (.inl rfl)) pgs_nil)))) (fun _ _ _ _ _ => pts_nil) (fun _ _ _ _ _ => (pe_op op_add (pv 7) (pv 8)))) pa_nil)))
      (pss_one (ps_ret (pe_tup (pa_cons (pv 2) (pa_cons (pv 3) (pa_cons (pe_op op_add (pe_call GWo hrWo (by rfl) D.gWo D.FWo.kp D.bWo .nil pass0 (pa_cons (pv 0) (pa_cons (pv 2) pa_nil))) (pe_call GWo hrWo (by rfl) D.gWo D.FWo.kp D.bWo .nil pass0 (pa_cons (pv 1) (pa_cons (pv 2) pa_nil)))) (pa_cons (pv 6) pa_nil))))))))))))), ?_⟩
    obtain ⟨ta, ua, rfl, a1, a2⟩ := id ha
    obtain ⟨tb, ub, rfl, b1, b2⟩ := id hb
    walk_at "rd"
    refine ⟨_, _, _, _, rfl, rfl, a1, atI_nat (j := 0) rfl, ?_⟩
    walk_at "rd"
    refine ⟨_, _, _, _, rfl, rfl, b1, atI_nat (j := 0) rfl, ?_⟩
    walk_at "rd"
    refine ⟨_, _, _, _, rfl, rfl, a1, atI_nat (j := 1) rfl, ?_⟩
    walk_at "rd"
    refine ⟨_, _, _, _, rfl, rfl, b1, atI_nat (j := 1) rfl, ?_⟩
    walk_at "rd"
    refine ite2 (fun c => ?_) (fun c => ?_)
    · have c : mx a.need b.need > mn a.most b.most := of_decide_eq_true c
      walk_at "rd"
      refine q0 ?_ H (Same.refl _)
      unfold sumW
      rw [if_pos c]
    · have c : ¬ mx a.need b.need > mn a.most b.most := fun z => c (decide_eq_true z)
      have es : sumW a b = some ⟨mx a.need b.need, mn a.most b.most, costAt a (mx a.need b.need) + costAt b (mx a.need b.need), addL (winL a (mx a.need b.need) (mn a.most b.most)) (winL b (mx a.need b.need) (mn a.most b.most))⟩ := by
        unfold sumW
        rw [if_neg c]
      have q := q1 _ es
      clear q0 q1 es
      have le1 : a.need ≤ mx a.need b.need ∧ b.need ≤ mx a.need b.need := by rw [mx_eq]; omega
      have le2 : mn a.most b.most ≤ a.most ∧ mn a.most b.most ≤ b.most := by rw [mn_eq]; omega
      generalize eL : mx a.need b.need = lo at *
      generalize eM : mn a.most b.most = hi at *
      have eL : (if b.need > a.need then b.need else a.need) = lo := eL
      have eM : (if b.most < a.most then b.most else a.most) = hi := eM
      simp only [eL, eM]
      have l1 := winL_len la le1.1 (by omega) le2.1
      have l2 := winL_len lb le1.2 (by omega) le2.2
      have wd := la.wide
      walk_at "rd"
      refine ⟨.ref ta, lo, hi, a, rfl, ha, la, le1.1, by omega, le2.1, fun G1 p1 g1 e1 => ?_⟩
      walk_at "rd"
      refine ⟨.ref tb, lo, hi, b, rfl, hb.same g1, lb, le1.2, by omega, le2.2, fun G2 p2 g2 e2 => ?_⟩
      have e1 := sq_same g2 e1
      have g12 := g1.trans g2
      generalize winL a lo hi = xs at *
      generalize winL b lo hi = ys at *
      walk_at "rd"
      refine ⟨_, _, _, _, rfl, .inr ⟨e1, e2, fun D1 nD1 => lc_it (walk_zipT (K := K) (a := p1) (b := p2) (xs := xs.map V.int) (ys := ys.map V.int) (n := xs.length) (by rw [List.length_map, List.length_map]; omega))
        (fun i G => Same G2 G ∧ G D1 = some (.lst ((addL (xs.take i) (ys.take i)).map V.int))) ?_ (fun i G _ h => ⟨sq_same h.1 e1, sq_same h.1 e2⟩) (fun i x G G' hi h hy => ?_) (fun G h => ?_)⟩⟩
      · exact ⟨same_new nD1, upd_same⟩
      · obtain ⟨k1, k2⟩ := h
        obtain ⟨T, x1, x2, rfl, nT, rfl, z1, z2⟩ := hy
        have z1 : (xs.map V.int)[i]? = some x1 := z1
        have z2 : (ys.map V.int)[i]? = some x2 := z2
        obtain ⟨y1, c1, rfl⟩ := int_at z1
        obtain ⟨y2, c2, rfl⟩ := int_at z2
        generalize eH : upd _ _ _ = J1
        obtain ⟨j1, f1⟩ := new_of eH nT
        refine ⟨T, _, rfl, .inl (.inl f1), rfl, _, _, rfl, _, _, rfl, rfl, ?_⟩
        refine yesT rfl ?_
        walk_at "rd"
        refine ⟨_, j1 _ _ k2, ?_, fun b' o e' => ?_, ?_⟩
        · unfold addL
          rw [List.length_map, List.length_zipWith, List.length_take, List.length_take]
          exact many_small (by omega)
        · rw [upd_ne (ne_of_none e' nD1)]
          exact j1 _ _ (k1 _ _ e')
        · rw [upd_same, addL_snoc c1 c2, List.map_append]
          rfl
      · obtain ⟨k1, k2⟩ := h
        rw [List.take_length, show xs.length = ys.length by omega, List.take_length] at k2
        refine ⟨_, _, rfl, .inl ⟨.inl (.inl k2), fun p np => ?_⟩⟩
        generalize eH : upd _ _ _ = G3
        obtain ⟨g3, e3⟩ := new_of eH np
        have g23 := Same.trans k1 g3
        have g13 := g12.trans g23
        walk_at "rd"
        refine ⟨.ref ta, lo, a, rfl, ha.same g13, fun G4 g4 => ?_⟩
        have v1 : costV a lo = .int (costAt a lo) := by
          unfold costV fitB
          rw [decide_eq_true le1.1, decide_eq_true (show lo ≤ a.most by omega)]
          rfl
        have v2 : costV b lo = .int (costAt b lo) := by
          unfold costV fitB
          rw [decide_eq_true le1.2, decide_eq_true (show lo ≤ b.most by omega)]
          rfl
        rw [v1]
        walk_at "rd"
        refine ⟨.ref tb, lo, b, rfl, hb.same (g13.trans g4), fun G5 g5 => ?_⟩
        rw [v2]
        have g45 := g4.trans g5
        walk_at "rd"
        refine ⟨by show 4 ≤ sizeLine; decide, fun r nr => ?_⟩
        generalize eH : upd _ _ _ = G6
        obtain ⟨g6, e6⟩ := new_of eH nr
        refine q G6 (.ref r) ((g13.trans g45).trans g6) ⟨r, p, rfl, sq_of e6, sq_same (g45.trans g6) (sq_of e3)⟩
end
end K16
set_option Elab.async false
set_option linter.all false
set_option maxRecDepth 100000
set_option maxHeartbeats 1000000
namespace K16
open PySem PySem.Spec PyProof.Rows L2 WK
local macro_rules | `(tactic| walk_at "rd") => `(tactic| repeat (first | refine Exists.intro _ (And.intro rfl ?_) | refine Exists.intro _ (Exists.intro _ (And.intro rfl (And.intro rfl ?_))) | refine Exists.intro _ (Exists.intro _ (And.intro rfl ?_))))
section
variable {P : Program} {w : World} {K : PySem.W.Frag} {mg : Str → Option Value} {base : Heap} {fCo fWo fWi fSu fLo fHi fLe fBo fHw fHs fHe fAf fWs fLc fLt fPl aNOTHING aE : Addr} {dCo dWo dWi dSu dLo dHi dLe dBo dHw dHs dHe dAf dWs dLc dLt dPl : FuncData}
theorem ok_hw (D : Wks K mg fCo fWo fWi fSu fLo fHi fLe fBo fHw fHs fHe fAf fWs fLc fLt fPl aNOTHING aE dCo dWo dWi dSu dLo dHi dLe dBo dHw dHs dHe dAf dWs dLc dLt dPl) (B : Blt mg) : FnOk P w K mg base CX0 4 fHw dHw ["work", "b", "x"] (spHW K) := by
  have GLe : FnOk P w K mg base CX0 3 fLe dLe ["work"] (spLeast K) := ok_least D B
  have GBo : FnOk P w K mg base CX0 1 fBo dBo ["slopes", "b"] (spBounded K) := ok_bounded D B
  refine D.FHw.ok scHw (fun vs H Q E h => ?_) (fun cdv A outer s H vs Q E hr h => ?_)
  · obtain ⟨t, b, x, a, rfl, _⟩ := h
    rfl
  · obtain ⟨t, b, x, a, rfl, ha, la, b1, b2, q⟩ := h
    have hrLe := hr
    have hrBo := hr.mono (show 1 ≤ 3 by decide)
    refine ⟨_, (pss_cons (ps_asg (pv 0) (pg_tup rfl (pgs_cons (pg_name (i := 3) scHw.nd rfl (.inl rfl)) (pgs_cons (pg_name (i := 4) scHw.nd rfl (.inl rfl)) (pgs_cons (pg_name (i := 5) scHw.nd rfl (.inl rfl)) (pgs_cons (pg_name (i := 6) scHw.nd rfl (.inl rfl)) pgs_nil))))))
      (pss_cons (ps_set (i := 7) scHw.nd rfl (.inl rfl) (pe_slice (r := rSlA K) sl_tupA (pe_call GBo hrBo (by rfl) D.gBo D.FBo.kp D.bBo .nil pass0 (pa_cons (pv 6) (pa_cons (pv 1) pa_nil))) po_none (po_some (pe_callB (call_max2 rfl) (by rfl) B.max boot_max (pa_cons pe_int (pa_cons (pe_op op_sub (pv 2) (pv 3)) pa_nil))))))
      (pss_one (ps_ret (pe_op op_add (pe_op op_add (pe_call GLe hrLe (by rfl) D.gLe D.FLe.kp D.bLe .nil pass0 (pa_cons (pv 0) pa_nil)) (pe_callB (r := rSumT K) (cr_sumT rfl) (by rfl) B.sum (by decide +kernel) (pa_cons (pv 7) pa_nil))) (pe_op op_mul (pv 1) (pe_callB (call_max2 rfl) (by rfl) B.max boot_max (pa_cons pe_int (pa_cons (pe_op op_sub (pv 2) (pv 4)) pa_nil))))))))), ?_⟩
    obtain ⟨ta, ua, rfl, a1, a2⟩ := id ha
    walk_at "rd"
    refine ⟨_, _, rfl, a1, rfl, _, _, rfl, _, _, rfl, _, _, rfl, _, _, rfl, rfl, ?_⟩
    walk_at "rd"
    refine ⟨ua, b, a.slopes, rfl, a2, by have := la.len; have := la.wide; omega, fun G1 p1 g1 e1 => ?_⟩
    walk_at "rd"
    generalize em : (if x - a.need > 0 then x - a.need else 0) = m
    have m0 : 0 ≤ m := by
      rw [← em]
      split <;> omega
    refine slB e1 fun p2 G2 g2 e2 => ?_
    rw [cut_int m0, ← List.map_take] at e2
    have g12 := g1.trans g2
    walk_at "rd"
    refine ⟨.ref ta, a, rfl, ha.same g12, la, fun G3 g3 => ?_⟩
    walk_at "rd"
    refine ⟨_, _, rfl, sq_same g3 e2, ?_⟩
    walk_at "rd"
    refine ⟨mull ⟨b1, b2⟩, ?_⟩
    walk_at "rd"
    have := q G3 (g12.trans g3)
    unfold heldWorth at this
    rw [← em]
    exact this
theorem ok_hs (D : Wks K mg fCo fWo fWi fSu fLo fHi fLe fBo fHw fHs fHe fAf fWs fLc fLt fPl aNOTHING aE dCo dWo dWi dSu dLo dHi dLe dBo dHw dHs dHe dAf dWs dLc dLt dPl) (B : Blt mg) : FnOk P w K mg base CX0 2 fHs dHs ["work", "b", "low", "high"] (spHS K) := by
  have GBo : FnOk P w K mg base CX0 1 fBo dBo ["slopes", "b"] (spBounded K) := ok_bounded D B
  refine D.FHs.ok scHs (fun vs H Q E h => ?_) (fun cdv A outer s H vs Q E hr h => ?_)
  · obtain ⟨t, b, lo, hi, a, rfl, _⟩ := h
    rfl
  · obtain ⟨t, b, lo, hi, a, rfl, ha, la, c1, c2, q⟩ := h
    have hrBo := hr
    refine ⟨_, (pss_cons (ps_asg (pv 0) (pg_tup rfl (pgs_cons (pg_name (i := 4) scHs.nd rfl (.inl rfl)) (pgs_cons (pg_name (i := 5) scHs.nd rfl (.inl rfl)) (pgs_cons (pg_name (i := 6) scHs.nd rfl (.inl rfl)) (pgs_cons (pg_name (i := 7) scHs.nd rfl (.inl rfl)) pgs_nil))))))
      (pss_cons (ps_set (i := 8) scHs.nd rfl (.inl rfl) (pe_slice (r := rSlA K) sl_tupA (pe_call GBo hrBo (by rfl) D.gBo D.FBo.kp D.bBo .nil pass0 (pa_cons (pv 7) (pa_cons (pv 1) pa_nil))) (po_some (pe_callB (call_max2 rfl) (by rfl) B.max boot_max (pa_cons pe_int (pa_cons (pe_op op_sub (pv 2) (pv 4)) pa_nil)))) (po_some (pe_callB (call_max2 rfl) (by rfl) B.max boot_max (pa_cons pe_int (pa_cons (pe_op op_sub (pv 3) (pv 4)) pa_nil))))))
      (pss_cons (ps_set (i := 9) scHs.nd rfl (.inl rfl) (pe_op op_repA (pe_tup (pa_cons pe_int pa_nil)) (pe_callB (call_max2 rfl) (by rfl) B.max boot_max (pa_cons pe_int (pa_cons (pe_op op_sub (pe_callB (call_min2 rfl) (by rfl) B.min boot_min (pa_cons (pv 3) (pa_cons (pv 4) pa_nil))) (pv 2)) pa_nil)))))
      (pss_cons (ps_set (i := 10) scHs.nd rfl (.inl rfl) (pe_op op_repA (pe_tup (pa_cons (pv 1) pa_nil)) (pe_callB (call_max2 rfl) (by rfl) B.max boot_max (pa_cons pe_int (pa_cons (pe_op op_sub (pv 3) (pe_callB (call_max2 rfl) (by rfl) B.max boot_max (pa_cons (pv 2) (pa_cons (pv 5) pa_nil)))) pa_nil)))))
      (pss_one (ps_ret (pe_op op_catA (pe_op op_catA (pv 9) (pv 8)) (pv 10)))))))), ?_⟩
    obtain ⟨ta, ua, rfl, a1, a2⟩ := id ha
    walk_at "rd"
    refine ⟨_, _, rfl, a1, rfl, _, _, rfl, _, _, rfl, _, _, rfl, _, _, rfl, rfl, ?_⟩
    walk_at "rd"
    refine ⟨ua, b, a.slopes, rfl, a2, by have := la.len; have := la.wide; omega, fun G1 p1 g1 e1 => ?_⟩
    walk_at "rd"
    have nn : ∀ z, ∃ m : Nat, mx 0 z = m := fun z => ⟨(mx 0 z).toNat, by rw [Int.toNat_of_nonneg (by rw [mx_eq]; omega)]⟩
    obtain ⟨m, em⟩ := nn (lo - a.need)
    obtain ⟨n, en⟩ := nn (hi - a.need)
    refine slB e1 fun p2 G2 g2 e2 => ?_
    have e2 : SqT K G2 p2 ((heldMid a b lo hi).map V.int) := by
      have e2 : SqT K G2 p2 (cutV ((clampL a.slopes b).map V.int) (some (mx 0 (lo - a.need))) (some (mx 0 (hi - a.need)))) := e2
      rw [em, en, cut_mid, ← List.map_drop, ← List.map_take] at e2
      unfold heldMid
      rw [em, en, Int.toNat_natCast, Int.toNat_natCast]
      exact e2
    have g12 := g1.trans g2
    walk_at "rd"
    refine ⟨by show 1 ≤ sizeLine; decide, fun p3 n3 => ?_⟩
    generalize eH : upd _ _ _ = G3
    obtain ⟨g3, e3⟩ := new_of eH n3
    walk_at "rd"
    have k1 : mx 0 (mn hi a.need - lo) ≤ 1000 ∧ 0 ≤ mx 0 (mn hi a.need - lo) := by rw [mx_eq, mn_eq]; omega
    have k2 : mx 0 (hi - mx lo a.most) ≤ 1000 ∧ 0 ≤ mx 0 (hi - mx lo a.most) := by rw [mx_eq, mx_eq]; omega
    refine repB (k := mx 0 (mn hi a.need - lo)) (sq_of e3) (by omega) k1.1 fun p4 G4 g4 e4 => ?_
    have g14 := (g12.trans g3).trans g4
    walk_at "rd"
    refine ⟨by show 1 ≤ sizeLine; decide, fun p5 n5 => ?_⟩
    generalize eH : upd _ _ _ = G5
    obtain ⟨g5, e5⟩ := new_of eH n5
    walk_at "rd"
    refine repB (k := mx 0 (hi - mx lo a.most)) (sq_of e5) (by omega) k2.1 fun p6 G6 g6 e6 => ?_
    have g46 := Same.trans g5 g6
    have g26 := (g3.trans g4).trans g46
    walk_at "rd"
    have hlen : ((heldSlopes a b lo hi).length : Int) = hi - lo := (heldW_len la c1 c2 (b := b)).len
    unfold heldSlopes at hlen
    rw [List.length_append, List.length_append] at hlen
    refine catB (sq_same g46 e4) (sq_same g26 e2) ?_ fun p7 G7 g7 e7 => ?_
    · rw [List.length_map, List.length_map]
      exact Nat.le_of_lt (many_small (by omega))
    walk_at "rd"
    refine catB e7 (sq_same g7 e6) ?_ fun p8 G8 g8 e8 => ?_
    · rw [List.length_append, List.length_map, List.length_map, List.length_map]
      exact Nat.le_of_lt (many_small (by omega))
    refine q G8 p8 ((g14.trans g46).trans (g7.trans g8)) ?_
    unfold heldSlopes
    rw [List.map_append, List.map_append]
    exact e8
theorem ok_held (D : Wks K mg fCo fWo fWi fSu fLo fHi fLe fBo fHw fHs fHe fAf fWs fLc fLt fPl aNOTHING aE dCo dWo dWi dSu dLo dHi dLe dBo dHw dHs dHe dAf dWs dLc dLt dPl) (B : Blt mg) : FnOk P w K mg base CX0 5 fHe dHe ["work", "b", "low", "high"] (spHeld K) := by
  have GHw : FnOk P w K mg base CX0 4 fHw dHw ["work", "b", "x"] (spHW K) := ok_hw D B
  have GHs : FnOk P w K mg base CX0 2 fHs dHs ["work", "b", "low", "high"] (spHS K) := ok_hs D B
  refine D.FHe.ok scHe (fun vs H Q E h => ?_) (fun cdv A outer s H vs Q E hr h => ?_)
  · obtain ⟨t, b, lo, hi, a, rfl, _⟩ := h
    rfl
  · obtain ⟨t, b, lo, hi, a, rfl, ha, la, b1, b2, c1, c2, q⟩ := h
    have hrHw := hr
    have hrHs := hr.mono (show 2 ≤ 4 by decide)
    refine ⟨_, (pss_one (ps_ret (pe_tup (pa_cons (pv 2) (pa_cons (pv 3) (pa_cons (pe_call GHw hrHw (by rfl) D.gHw D.FHw.kp D.bHw .nil pass0 (pa_cons (pv 0) (pa_cons (pv 1) (pa_cons (pv 2) pa_nil)))) (pa_cons (pe_call GHs hrHs (by rfl) D.gHs D.FHs.kp D.bHs .nil pass0 (pa_cons (pv 0) (pa_cons (pv 1) (pa_cons (pv 2) (pa_cons (pv 3) pa_nil))))) pa_nil))))))), ?_⟩
    walk_at "rd"
    refine ⟨t, b, lo, a, rfl, ha, la, b1, b2, fun G1 g1 => ?_⟩
    walk_at "rd"
    refine ⟨t, b, lo, hi, a, rfl, ha.same g1, la, c1, c2, fun G2 p g2 e2 => ?_⟩
    walk_at "rd"
    refine ⟨by show 4 ≤ sizeLine; decide, fun r nr => ?_⟩
    generalize eH : upd _ _ _ = G3
    obtain ⟨g3, e3⟩ := new_of eH nr
    exact q G3 (.ref r) ((g1.trans g2).trans g3) ⟨r, p, rfl, sq_of e3, sq_same g3 e2⟩
theorem ok_after (D : Wks K mg fCo fWo fWi fSu fLo fHi fLe fBo fHw fHs fHe fAf fWs fLc fLt fPl aNOTHING aE dCo dWo dWi dSu dLo dHi dLe dBo dHw dHs dHe dAf dWs dLc dLt dPl) (B : Blt mg) : FnOk P w K mg base CX0 6 fAf dAf ["work", "slot", "b"] (spAfter K) := by
  have GSu : FnOk P w K mg base CX0 3 fSu dSu ["one", "other"] (spSum K) := ok_sum D B
  have GHe : FnOk P w K mg base CX0 5 fHe dHe ["work", "b", "low", "high"] (spHeld K) := ok_held D B
  refine D.FAf.ok scAf (fun vs H Q E h => ?_) (fun cdv A outer s H vs Q E hr h => ?_)
  · obtain ⟨t, u, b, a, sl, rfl, _⟩ := h
    rfl
  · obtain ⟨t, u, b, a, sl, rfl, ha, hs, la, ls, b1, b2, q⟩ := h
    have hrHe := hr
    have hrSu := hr.mono (show 3 ≤ 5 by decide)
    refine ⟨_, (pss_one (ps_ret (pe_call GSu hrSu (by rfl) D.gSu D.FSu.kp D.bSu .nil pass0 (pa_cons (pv 1) (pa_cons (pe_call GHe hrHe (by rfl) D.gHe D.FHe.kp D.bHe .nil pass0 (pa_cons (pv 0) (pa_cons (pv 2) (pa_cons (pe_ix (r := rIxT K) ix_tup (pv 1) pe_int (fun _ _ => rfl)) (pa_cons (pe_ix (r := rIxT K) ix_tup (pv 1) pe_int (fun _ _ => rfl)) pa_nil))))) pa_nil))))), ?_⟩
    obtain ⟨ts, us, rfl, a1, a2⟩ := id hs
    walk_at "rd"
    refine ⟨_, _, _, _, rfl, rfl, a1, atI_nat (j := 0) rfl, ?_⟩
    walk_at "rd"
    refine ⟨_, _, _, _, rfl, rfl, a1, atI_nat (j := 1) rfl, ?_⟩
    walk_at "rd"
    refine ⟨t, b, sl.need, sl.most, a, rfl, ha, la, b1, b2, ls.mid, ls.wide, fun G1 v g1 e1 => ?_⟩
    walk_at "rd"
    refine ⟨.ref ts, v, sl, _, rfl, hs.same g1, e1, ls, heldW_len la ls.mid ls.wide, fun e => ?_, fun c e G2 x g2 e2 => ?_⟩
    · rw [after_some ls] at e
      cases e
    · rw [after_some ls] at e
      have e := Option.some.inj e
      rw [← e] at e2
      exact q G2 x (g1.trans g2) e2
theorem ok_plain (D : Wks K mg fCo fWo fWi fSu fLo fHi fLe fBo fHw fHs fHe fAf fWs fLc fLt fPl aNOTHING aE dCo dWo dWi dSu dLo dHi dLe dBo dHw dHs dHe dAf dWs dLc dLt dPl) (B : Blt mg) : FnOk P w K mg base CX0 1 fPl dPl ["need", "most", "price"] (spPlain K) := by
  refine D.FPl.ok scPl (fun vs H Q E h => ?_) (fun cdv A outer s H vs Q E hr h => ?_)
  · obtain ⟨need, most, price, rfl, _⟩ := h
    rfl
  · obtain ⟨need, most, price, rfl, c1, c2, b1, b2, q⟩ := h
    refine ⟨_, (pss_one (ps_ret (pe_tup (pa_cons (pv 0) (pa_cons (pv 1) (pa_cons (pe_op op_mul (pv 0) (pv 2)) (pa_cons (pe_op op_repA (pe_tup (pa_cons (pv 2) pa_nil)) (pe_op op_sub (pv 1) (pv 0))) pa_nil))))))), ?_⟩
    walk_at "rd"
    refine ⟨mulr ⟨b1, b2⟩, ?_⟩
    walk_at "rd"
    refine ⟨by show 1 ≤ sizeLine; decide, fun p np => ?_⟩
    generalize eH : upd _ _ _ = G1
    obtain ⟨g1, e1⟩ := new_of eH np
    walk_at "rd"
    refine repB (sq_of e1) (by omega) (by omega) fun p2 G2 g2 e2 => ?_
    walk_at "rd"
    refine ⟨by show 4 ≤ sizeLine; decide, fun r nr => ?_⟩
    generalize eH : upd _ _ _ = G3
    obtain ⟨g3, e3⟩ := new_of eH nr
    exact q G3 (.ref r) ((g1.trans g2).trans g3) ⟨r, p2, rfl, sq_of e3, sq_same g3 e2⟩
end
end K16
set_option Elab.async false
set_option linter.all false
set_option maxRecDepth 100000
set_option maxHeartbeats 1000000
namespace K16
open PySem PySem.Spec PyProof.Rows L2 WK
local macro_rules | `(tactic| walk_at "rd") => `(tactic| repeat (first | refine Exists.intro _ (And.intro rfl ?_) | refine Exists.intro _ (Exists.intro _ (And.intro rfl (And.intro rfl ?_))) | refine Exists.intro _ (Exists.intro _ (And.intro rfl ?_))))
section
variable {P : Program} {w : World} {K : PySem.W.Frag} {mg : Str → Option Value} {base : Heap} {fCo fWo fWi fSu fLo fHi fLe fBo fHw fHs fHe fAf fWs fLc fLt fPl aNOTHING aE : Addr} {dCo dWo dWi dSu dLo dHi dLe dBo dHw dHs dHe dAf dWs dLc dLt dPl : FuncData}
theorem ok_works (D : Wks K mg fCo fWo fWi fSu fLo fHi fLe fBo fHw fHs fHe fAf fWs fLc fLt fPl aNOTHING aE dCo dWo dWi dSu dLo dHi dLe dBo dHw dHs dHe dAf dWs dLc dLt dPl) (B : Blt mg) : FnOk P w K mg base CX0 7 fWs dWs ["slots", "b"] (spWorks K) := by
  have GAf : FnOk P w K mg base CX0 6 fAf dAf ["work", "slot", "b"] (spAfter K) := ok_after D B
  refine D.FWs.ok scWs (fun vs H Q E h => ?_) (fun cdv A outer s H vs Q E hr h => ?_)
  · obtain ⟨p, b, us, ss, rfl, _⟩ := h
    rfl
  · obtain ⟨p, b, us, ss, rfl, hp, hs, lens, hl, b1, b2, q⟩ := h
    have hrAf := hr
    refine ⟨_, (pss_cons (ps_set (i := 2) scWs.nd rfl (.inl rfl) (pe_lst pa_nil))
      (pss_cons (ps_set (i := 3) scWs.nd rfl (.inl rfl) (pe_glob (v := .ref aNOTHING) (by rfl) D.gNOTHING rfl))
      (pss_cons (ps_for PassesOwn.never rfl (pi_tup (pv 0)) (pg_name (i := 4) scWs.nd rfl (.inl rfl))
        (pss_cons (ps_set (i := 3) scWs.nd rfl (.inl rfl) (pe_call GAf hrAf (by rfl) D.gAf D.FAf.kp D.bAf .nil pass0 (pa_cons (pv 3) (pa_cons (pv 4) (pa_cons (pv 1) pa_nil)))))
        (pss_one (ps_expr (pe_bm PySem.F.plainAttrs_list PySem.F.slot_list_append PySem.F.type_list_append mt_append (pv 2) (pa_cons (pv 3) pa_nil))))))
      (pss_one (ps_ret (pv 2)))))), ?_⟩
    walk_at "rd"
    refine ⟨Nat.zero_le _, fun l nl => ?_⟩
    generalize eH : upd _ _ _ = H1
    obtain ⟨g1, e1⟩ := new_of eH nl
    walk_at "rd"
    refine ⟨⟨_, sq_same g1 hp⟩, for_tup (K := K) (a := p) (xs := us) (fun i σ G => ∃ (x4 : Option V) (v : V) (ws : List V), σ = [some (.ref p), some (.int b), some (.ref l), some v, x4] ∧
      Same H G ∧ G l = some (.lst ws) ∧ SltsK K G ws (worksW w0 b (ss.take i)) ∧ SltK K G v (lastW w0 b (ss.take i))) ⟨none, _, [], rfl, g1, e1, .nil, ⟨aNOTHING, aE, rfl, D.nN _, D.nE _⟩⟩ (fun i σ G _ h => ?_) (fun i x σ G hx h => ?_) (fun σ G h => ?_)⟩
    · obtain ⟨x4, v, ws, rfl, g, e, k1, k2⟩ := h
      exact sq_same g hp
    · obtain ⟨x4, v, ws, rfl, g, e, k1, k2⟩ := h
      obtain ⟨sl, hsl, hx⟩ := (hs.same g).get hx
      have ls := lens sl (List.mem_of_getElem? hsl)
      walk_at "rd"
      refine ⟨v, x, b, _, sl, rfl, k2, hx, lastW_len w0_len (fun s' h => lens s' (List.mem_of_mem_take h)), ls, b1, b2, fun G2 v2 g2 e2 => ?_⟩
      have k3 := g2 _ _ e
      walk_at "rd"
      refine ⟨.inl ⟨rfl, _, .inl (.inl k3)⟩, ?_⟩
      walk_at "rd"
      refine ⟨_, _, _, rfl, rfl, k3, ?_, ?_⟩
      · rw [k1.len, worksW_len, List.length_take]
        exact many_small (by omega)
      · refine ⟨_, v2, _, rfl, fun c o e' => ?_, upd_same, ?_, ?_⟩
        · rw [upd_ne (ne_of_none e' nl)]
          exact g2 _ _ (g _ _ e')
        · rw [take_snoc1 hsl, worksW_snoc]
          exact ((k1.same g2).upd k3).snoc (e2.upd k3)
        · rw [take_snoc1 hsl, lastW_snoc]
          exact e2.upd k3
    · obtain ⟨x4, v, ws, rfl, g, e, k1, k2⟩ := h
      walk_at "rd"
      rw [hs.len, List.take_length] at k1
      exact q G l ws g e k1
theorem ok_leasts (D : Wks K mg fCo fWo fWi fSu fLo fHi fLe fBo fHw fHs fHe fAf fWs fLc fLt fPl aNOTHING aE dCo dWo dWi dSu dLo dHi dLe dBo dHw dHs dHe dAf dWs dLc dLt dPl) (B : Blt mg) : FnOk P w K mg base CX0 8 fLc dLc ["slots", "b"] (spLeasts K) := by
  have GWs : FnOk P w K mg base CX0 7 fWs dWs ["slots", "b"] (spWorks K) := ok_works D B
  have GLe : FnOk P w K mg base CX0 3 fLe dLe ["work"] (spLeast K) := ok_least D B
  refine D.FLc.ok scLc (fun vs H Q E h => ?_) (fun cdv A outer s H vs Q E hr h => ?_)
  · obtain ⟨p, b, us, ss, rfl, _⟩ := h
    rfl
  · obtain ⟨p, b, us, ss, rfl, hp, hs, lens, hl, b1, b2, q⟩ := h
    have hrWs := hr
    have hrLe := hr.mono (show 3 ≤ 7 by decide)
    refine ⟨_, (pss_one (ps_ret (pe_lc (own := [("work", 2)]) (g := gName 2) rfl scLc.nd (pi_list (pe_call GWs hrWs (by rfl) D.gWs D.FWs.kp D.bWs .nil pass0 (pa_cons (pv 0) (pa_cons (pv 1) pa_nil)))) (blkOk_by (own := [("work", 2)]) (N := ["slots", "b", "work"]) (sc := defScope sLc) (by decide +kernel)) (fun _ _ _ _ _ => (pg_name (i := 2) scLc.nd rfl (.inl rfl))) (fun _ _ _ _ _ => pts_nil) (fun _ _ _ _ _ => (pe_call GLe hrLe (by rfl) D.gLe D.FLe.kp D.bLe .nil pass0 (pa_cons (pv 2) pa_nil)))))), ?_⟩
    walk_at "rd"
    refine ⟨p, b, us, ss, rfl, hp, hs, lens, hl, b1, b2, fun G1 l ws g1 e1 k1 => ?_⟩
    have Lens := worksW_Len (b := b) (ss := ss) w0_len lens
    have wl : (worksW w0 b ss).length = ss.length := worksW_len
    walk_at "rd"
    refine ⟨⟨_, .inl (.inl e1)⟩, fun D1 nD1 => lc_list (K := K) (a := l) (xs := ws) (fun i G => Same G1 G ∧ G D1 = some (.lst ((((worksW w0 b ss).take i).map leastW).map V.int))) ?_ (fun i G _ h => .inl (.inl (h.1 _ _ e1))) (fun i x G hx h => ?_) (fun G h => ?_)⟩
    · exact ⟨same_new nD1, upd_same⟩
    · obtain ⟨g, e⟩ := h
      obtain ⟨sl, hsl, hx⟩ := (k1.same g).get hx
      refine yesT rfl ?_
      walk_at "rd"
      refine ⟨x, sl, rfl, hx, Lens sl (List.mem_of_getElem? hsl), fun G2 g2 => ?_⟩
      refine ⟨_, g2 _ _ e, ?_, fun c o e' => ?_, ?_⟩
      · rw [List.length_map, List.length_map, List.length_take]
        exact many_small (by omega)
      · rw [upd_ne (ne_of_none e' nD1)]
        exact g2 _ _ (g _ _ e')
      · rw [upd_same, take_snoc1 hsl, List.map_append, List.map_append]
        rfl
    · obtain ⟨g, e⟩ := h
      rw [k1.len, List.take_length] at e
      walk_at "rd"
      exact q G D1 (g1.trans g) e
theorem ok_leastc (D : Wks K mg fCo fWo fWi fSu fLo fHi fLe fBo fHw fHs fHe fAf fWs fLc fLt fPl aNOTHING aE dCo dWo dWi dSu dLo dHi dLe dBo dHw dHs dHe dAf dWs dLc dLt dPl) (B : Blt mg) : FnOk P w K mg base CX0 9 fLt dLt ["slots", "b"] (spLeastC K) := by
  have GLc : FnOk P w K mg base CX0 8 fLc dLc ["slots", "b"] (spLeasts K) := ok_leasts D B
  refine D.FLt.ok scLt (fun vs H Q E h => ?_) (fun cdv A outer s H vs Q E hr h => ?_)
  · obtain ⟨p, b, us, ss, rfl, _⟩ := h
    rfl
  · obtain ⟨p, b, us, ss, rfl, hp, hs, lens, hl, b1, b2, q⟩ := h
    have hrLc := hr
    refine ⟨_, (pss_cons (ps_if (pt_not (pt_truth (pv 0) (by intro _; rfl)))
        (pss_one (ps_ret pe_int))
        pss_nil)
      (pss_one (ps_ret (pe_ix (r := rIxL K) ix_list (pe_call GLc hrLc (by rfl) D.gLc D.FLc.kp D.bLc .nil pass0 (pa_cons (pv 0) (pa_cons (pv 1) pa_nil))) (pe_un un_neg pe_int) (fun _ _ => rfl))))), ?_⟩
    walk_at "rd"
    refine ⟨!us.isEmpty, .inr (.inl ⟨us, hp, rfl⟩), ?_⟩
    rcases List.eq_nil_or_concat ss with es | ⟨st, sz, es⟩
    · subst es
      have eu : us = [] := List.eq_nil_of_length_eq_zero hs.len
      subst eu
      refine ite2 (fun _ => ?_) (fun c => absurd rfl c)
      walk_at "rd"
      exact q H (Same.refl _)
    · have eu : us.isEmpty = false := by
        cases us with
        | nil =>
          have := hs.len
          rw [es, List.concat_eq_append, List.length_append] at this
          simp only [List.length_nil, List.length_cons] at this
          omega
        | cons u us => rfl
      rw [eu]
      refine ite2 (fun c => absurd c (by decide)) (fun _ => ?_)
      walk_at "rd"
      refine ⟨p, b, us, ss, rfl, hp, hs, lens, hl, b1, b2, fun G l g e => ?_⟩
      rw [es, List.concat_eq_append, worksW_snoc, List.map_append, List.map_append] at e
      walk_at "rd"
      refine ⟨_, _, _, _, rfl, rfl, .inl (.inl e), atI_last _ _, ?_⟩
      have := q G g
      rw [es, List.concat_eq_append, lastW_snoc] at this
      exact this
end
end K16
set_option Elab.async false
set_option linter.all false
set_option maxRecDepth 100000
set_option maxHeartbeats 1000000
namespace K16
open PySem PySem.Spec PyProof.Rows L2 WK
local macro_rules | `(tactic| walk_at "rd") => `(tactic| repeat (first | refine Exists.intro _ (And.intro rfl ?_) | refine Exists.intro _ (Exists.intro _ (And.intro rfl (And.intro rfl ?_))) | refine Exists.intro _ (Exists.intro _ (And.intro rfl ?_))))
abbrev sRq : Stmt := topS 4
abbrev sSl : Stmt := topS 24
theorem scRq : FnScope ["holds", "path"] ["holds", "path"] (defScope sRq) := ⟨rfl, rfl, rfl, by decide +kernel, rfl, by decide +kernel, by decide +kernel⟩
theorem scSl : FnScope ["need", "costs", "rises", "k", "cost", "early", "late"] ["need", "costs"] (defScope sSl) := ⟨rfl, rfl, rfl, by decide +kernel, rfl, by decide +kernel, by decide +kernel⟩
structure Dsl (K : PySem.W.Frag) (mg : Str → Option Value) (fRq : Addr) (dRq : FuncData) : Prop where
  FRq : Fun K "require" "require" sRq fRq dRq
  bRq : Binds K dRq ["holds", "path"] []
  gRq : mg "require" = some (.ref fRq)
def risesL (cs : List Int) (i : Nat) : List Int := (List.range i).map fun t => cs.getD (t + 1) 0 - cs.getD t 0
def spRequire : Sp := fun vs H Q _ => ∃ v, vs = [.bl true, v] ∧ ∀ H', Same H H' → Q .non H'
def spSlotOf (K : PySem.W.Frag) : Sp := fun vs H Q _ => ∃ (need : Int) (p : Addr) (cs : List Int), vs = [.int need, .ref p] ∧ SqT K H p (cs.map V.int) ∧ 0 < cs.length ∧ cs.length ≤ 1000 ∧
  (∀ k c, cs[k]? = some c → 0 ≤ c ∧ (2 ≤ k → (risesL cs (cs.length - 1)).getD (k - 2) 0 ≤ (risesL cs (cs.length - 1)).getD (k - 1) 0)) ∧
  ∀ H' v, Same H H' → SltK K H' v ⟨need, need + ((cs.length - 1 : Nat) : Int), cs.getD 0 0, risesL cs (cs.length - 1)⟩ → Q v H'
section
variable {P : Program} {w : World} {K : PySem.W.Frag} {mg : Str → Option Value} {base : Heap} {fRq fSl : Addr} {dRq dSl : FuncData}
theorem ok_require (F : Fun K "require" "require" sRq fRq dRq) (B : Blt mg) : FnOk P w K mg base CX0 1 fRq dRq ["holds", "path"] spRequire := by
  refine F.ok scRq (fun vs H Q E h => ?_) (fun cdv A outer s H vs Q E hr h => ?_)
  · obtain ⟨v, rfl, _⟩ := h
    rfl
  · obtain ⟨v, rfl, q⟩ := h
    refine ⟨_, (pss_one (ps_if (pt_not (pt_val (pv 0)))
        (pss_one ps_never)
        pss_nil)), ?_⟩
    walk_at "rd"
    exact q H (Same.refl _)
theorem ok_slotof (F : Fun K "slot_of" "slot_of" sSl fSl dSl) (D : Dsl K mg fRq dRq) (B : Blt mg) : FnOk P w K mg base CX0 2 fSl dSl ["need", "costs"] (spSlotOf K) := by
  have GRq : FnOk P w K mg base CX0 1 fRq dRq ["holds", "path"] spRequire := ok_require D.FRq B
  refine F.ok scSl (fun vs H Q E h => ?_) (fun cdv A outer s H vs Q E hr h => ?_)
  · obtain ⟨need, p, cs, rfl, _⟩ := h
    rfl
  · obtain ⟨need, p, cs, rfl, hp, l0, l1, hok, q⟩ := h
    have hrRq := hr
    refine ⟨_, (pss_cons (ps_setLc (i := 2) (own := [("early", 5), ("late", 6)]) (g := gTup K 2 (gCons (gName 5) (gCons (gName 6) gNil))) rfl scSl.nd rfl rfl (sw_true rfl rfl rfl (by decide +kernel)) (RZ.pi_zipA (by rfl) B.zip (pa_cons (pv 1) (pa_cons (pe_slice (r := rSlA K) sl_tupA (pv 1) (po_some pe_int) po_none) pa_nil))) (blkOk_by (own := [("early", 5), ("late", 6)]) (N := ["need", "costs", "rises", "k", "cost", "early", "late"]) (sc := defScope sSl) (by decide +kernel)) (fun _ _ _ _ _ => (pg_tup rfl (pgs_cons (pg_name (i := 5) scSl.nd rfl (.inl rfl)) (pgs_cons (pg_name (i := 6) scSl.nd rfl (.inl rfl)) pgs_nil)))) (fun _ _ _ _ _ => pts_nil) (fun _ _ _ _ _ => (pe_op op_sub (pv 6) (pv 5))))
      (pss_cons (ps_for PassesOwn.never rfl (pi_enumT (by rfl) B.enumerate (pa_cons (pv 1) pa_nil)) (pg_tup rfl (pgs_cons (pg_name (i := 3) scSl.nd rfl (.inl rfl)) (pgs_cons (pg_name (i := 4) scSl.nd rfl (.inl rfl)) pgs_nil)))
        (pss_one (ps_expr (pe_call GRq hrRq (by rfl) D.gRq D.FRq.kp D.bRq .nil pass0 (pa_cons (pe_and (pe_cmpR op_ge (pv 4) pe_int (nomark _)) (pe_one (pe_or (pe_cmpR op_lt (pv 3) pe_int (nomark _)) (pe_one (pe_cmpR op_le (pe_ix (r := rIxL K) ix_list (pv 2) (pe_op op_sub (pv 3) pe_int) (fun _ _ => rfl)) (pe_ix (r := rIxL K) ix_list (pv 2) (pe_op op_sub (pv 3) pe_int) (fun _ _ => rfl)) (nomark _)))))) (pa_cons (pe_tup (pa_cons (pv 3) pa_nil)) pa_nil))))))
      (pss_one (ps_ret (pe_tup (pa_cons (pv 0) (pa_cons (pe_op op_add (pv 0) (pe_callB call_len_seq (by rfl) B.len PySem.boot_len (pa_cons (pv 2) pa_nil))) (pa_cons (pe_ix (r := rIxT K) ix_tup (pv 1) pe_int (fun _ _ => rfl)) (pa_cons (pe_callTy call_tuple_of (by rfl) B.tuple (by decide +kernel) (pa_cons (pv 2) pa_nil)) pa_nil))))))))), ?_⟩
    walk_at "rd"
    dsimp only [tNoPart]
    refine slB hp fun p1 G1 g1 e1 => ?_
    rw [cut_drop1, ← List.map_drop] at e1
    have hp1 := sq_same g1 hp
    walk_at "rd"
    refine ⟨_, _, _, _, rfl, .inr ⟨hp1, e1, fun D1 nD1 => lc_it (walk_zipT (K := K) (a := p) (b := p1) (xs := cs.map V.int) (ys := (cs.drop 1).map V.int) (n := cs.length - 1) (by rw [List.length_map, List.length_map, List.length_drop]; omega))
      (fun i G => Same G1 G ∧ G D1 = some (.lst ((risesL cs i).map V.int))) ?_ (fun i G _ h => ⟨sq_same h.1 hp1, sq_same h.1 e1⟩) (fun i x G G' hi h hy => ?_) (fun G h => ?_)⟩⟩
    · exact ⟨same_new nD1, upd_same⟩
    · obtain ⟨k1, k2⟩ := h
      obtain ⟨T, x1, x2, rfl, nT, rfl, z1, z2⟩ := hy
      have z1 : (cs.map V.int)[i]? = some x1 := z1
      have z2 : ((cs.drop 1).map V.int)[i]? = some x2 := z2
      obtain ⟨y1, c1, rfl⟩ := int_at z1
      obtain ⟨y2, c2, rfl⟩ := int_at z2
      rw [List.getElem?_drop] at c2
      have c2 : cs[i + 1]? = some y2 := by rw [← c2, Nat.add_comm]
      generalize eH : upd _ _ _ = J1
      obtain ⟨j1, f1⟩ := new_of eH nT
      refine ⟨T, _, rfl, .inl (.inl f1), rfl, _, _, rfl, _, _, rfl, rfl, ?_⟩
      refine yesT rfl ?_
      walk_at "rd"
      refine ⟨_, j1 _ _ k2, ?_, fun b' o e' => ?_, ?_⟩
      · unfold risesL
        rw [List.length_map, mapr_len]
        exact many_small (by omega)
      · rw [upd_ne (ne_of_none e' nD1)]
        exact j1 _ _ (k1 _ _ e')
      · rw [upd_same]
        unfold risesL
        rw [mapr_succ, List.map_append, getD_at c1, getD_at c2]
        rfl
    · obtain ⟨k1, k2⟩ := h
      have hp2 := sq_same k1 hp1
      have g12 := g1.trans k1
      have rl : (risesL cs (cs.length - 1)).length = cs.length - 1 := mapr_len
      walk_at "rd"
      refine ⟨_, _, rfl, hp2, for_it (walk_enumT (K := K) (a := p) (xs := cs.map V.int)) (fun j σ J => ∃ (y3 y4 y5 y6 : Option V), σ = [some (.int need), some (.ref p), some (.ref D1), y3, y4, y5, y6] ∧ Same G J) ⟨_, _, _, _, rfl, Same.refl _⟩ (fun j σ J _ h => ?_) (fun j x σ J J' hj h hy => ?_) (fun σ J h => ?_)⟩
      · obtain ⟨y3, y4, y5, y6, rfl, sj⟩ := h
        exact sq_same sj hp2
      · obtain ⟨y3, y4, y5, y6, rfl, sj⟩ := h
        obtain ⟨T, x1, x2, rfl, nT, rfl, b1, b2⟩ := hy
        have b1 : some (V.int (j : Nat)) = some x1 := b1
        injection b1 with b1
        subst b1
        obtain ⟨z, hz, rfl⟩ := int_at b2
        have hj : j < cs.length := (List.getElem?_eq_some_iff.mp hz).1
        generalize eH : upd _ _ _ = J1
        obtain ⟨j1, f1⟩ := new_of eH nT
        have hok := hok j z hz
        have k3 := j1 _ _ (sj _ _ k2)
        refine ⟨T, _, rfl, .inl (.inl f1), rfl, _, _, rfl, _, _, rfl, rfl, ?_⟩
        walk_at "rd"
        refine ite2 (fun _ => ?_) (fun c => absurd (decide_eq_true hok.1) c)
        walk_at "rd"
        refine ite2 (fun c2 => ?_) (fun c2 => ?_)
        · have e : decide ((j : Int) < 2) = true := c2
          walk_at "rd"
          refine ⟨by show 1 ≤ sizeLine; decide, fun r nr => ?_⟩
          generalize eH : upd _ _ _ = J2
          obtain ⟨j2, e2⟩ := new_of eH nr
          walk_at "rd"
          intro J3 j3
          exact ⟨_, _, _, _, rfl, ((sj.trans j1).trans j2).trans j3⟩
        · have hj2 : 2 ≤ j := by
            have := of_decide_eq_false (Bool.eq_false_iff.mpr c2)
            omega
          have h1 : (risesL cs (cs.length - 1))[j - 2]? = some ((risesL cs (cs.length - 1)).getD (j - 2) 0) := by
            rw [List.getElem?_eq_getElem (by omega), getD_at (List.getElem?_eq_getElem (by omega))]
          have h2 : (risesL cs (cs.length - 1))[j - 1]? = some ((risesL cs (cs.length - 1)).getD (j - 1) 0) := by
            rw [List.getElem?_eq_getElem (by omega), getD_at (List.getElem?_eq_getElem (by omega))]
          walk_at "rd"
          refine ⟨_, _, _, _, rfl, rfl, .inl (.inl k3), at_of (j := j - 2) (by omega) (by rw [List.getElem?_map, h1]; rfl), ?_⟩
          walk_at "rd"
          refine ⟨_, _, _, _, rfl, rfl, .inl (.inl k3), at_of (j := j - 1) (by omega) (by rw [List.getElem?_map, h2]; rfl), ?_⟩
          have e : decide ((risesL cs (cs.length - 1)).getD (j - 2) 0 ≤ (risesL cs (cs.length - 1)).getD (j - 1) 0) = true := decide_eq_true (hok.2 hj2)
          walk_at "rd"
          refine ⟨by show 1 ≤ sizeLine; decide, fun r nr => ?_⟩
          generalize eH : upd _ _ _ = J2
          obtain ⟨j2, e2⟩ := new_of eH nr
          walk_at "rd"
          refine ⟨.ref r, by show [V.bl (decide ((risesL cs (cs.length - 1)).getD (j - 2) 0 ≤ (risesL cs (cs.length - 1)).getD (j - 1) 0)), V.ref r] = _; rw [e], fun J3 j3 => ?_⟩
          exact ⟨_, _, _, _, rfl, ((sj.trans j1).trans j2).trans j3⟩
      · obtain ⟨y3, y4, y5, y6, rfl, sj⟩ := h
        walk_at "rd"
        refine ⟨_, _, rfl, .inl (.inl (.inl (sj _ _ k2))), ?_⟩
        walk_at "rd"
        refine ⟨_, _, _, _, rfl, rfl, sq_same sj hp2, atI_nat (j := 0) (v := .int (cs.getD 0 0)) (by rw [List.getElem?_map, List.getElem?_eq_getElem l0, getD_at (List.getElem?_eq_getElem l0)]; rfl), ?_⟩
        walk_at "rd"
        refine ⟨_, _, rfl, .inl ⟨.inl (.inl (sj _ _ k2)), fun t nt => ?_⟩⟩
        generalize eH : upd _ _ _ = J2
        obtain ⟨j2, e2⟩ := new_of eH nt
        walk_at "rd"
        refine ⟨by show 4 ≤ sizeLine; decide, fun r nr => ?_⟩
        generalize eH : upd _ _ _ = J3
        obtain ⟨j3, e3⟩ := new_of eH nr
        rw [List.length_map, rl] at e3
        exact q J3 (.ref r) (((g12.trans sj).trans j2).trans j3) ⟨r, t, rfl, sq_of e3, sq_same j3 (sq_of e2)⟩
end
end K16
set_option Elab.async false
set_option linter.all false
set_option maxRecDepth 100000
set_option maxHeartbeats 4000000
namespace K16
open PySem PySem.Spec PyProof.Rows L2 WK
local macro_rules | `(tactic| walk_at "rd") => `(tactic| repeat (first | refine Exists.intro _ (And.intro rfl ?_) | refine Exists.intro _ (Exists.intro _ (And.intro rfl (And.intro rfl ?_))) | refine Exists.intro _ (Exists.intro _ (And.intro rfl ?_))))
abbrev sLaw : Stmt := topS 28
theorem scLaw : FnScope ["script", "source", "off", "told", "due", "work", "up", "down", "b", "far", "gap", "slots", "many", "price"] ["script"] (defScope sLaw) := ⟨rfl, rfl, rfl, by decide +kernel, rfl, by decide +kernel, by decide +kernel⟩
structure Txt (K : PySem.W.Frag) (mg : Str → Option Value) (fCo fWo fWi fSu fLo fHi fLe fBo fHw fHs fHe fAf fWs fLc fLt fPl aNOTHING aE fRq fSl fS fP : Addr) (dCo dWo dWi dSu dLo dHi dLe dBo dHw dHs dHe dAf dWs dLc dLt dPl dRq dSl dS dP : FuncData) : Prop extends Wks K mg fCo fWo fWi fSu fLo fHi fLe fBo fHw fHs fHe fAf fWs fLc fLt fPl aNOTHING aE dCo dWo dWi dSu dLo dHi dLe dBo dHw dHs dHe dAf dWs dLc dLt dPl, Dsl K mg fRq dRq where
  FSl : Fun K "slot_of" "slot_of" sSl fSl dSl
  bSl : Binds K dSl ["need", "costs"] []
  gSl : mg "slot_of" = some (.ref fSl)
  FS : Fun K "_law_source" "_law_source" sSource fS dS
  bS : Binds K dS ["script"] []
  gS : mg "_law_source" = some (.ref fS)
  FP : Fun K "_law_pick" "_law_pick" sPick fP dP
  bP : Binds K dP ["source", "many"] []
  gP : mg "_law_pick" = some (.ref fP)
theorem st_eq {t : TS} {D : Ends} {σ σ' : L2.St} {H : Hp} (e : σ = σ') (h : t D σ' H) : t D σ H := by
  rw [e]
  exact h
def spLaw (K : PySem.W.Frag) : Sp := fun vs H Q _ => ∃ (a : Addr) (ns : List Int), vs = [.ref a] ∧ SqL K H a (ns.map V.int) ∧ ns.length ≤ 63 ∧ ∀ H', Q (.bl true) H'
def offS : Slt := ⟨0, 3, 4, [-3, -1, 2]⟩
section
variable {P : Program} {w : World} {K : PySem.W.Frag} {mg : Str → Option Value} {base : Heap} {fCo fWo fWi fSu fLo fHi fLe fBo fHw fHs fHe fAf fWs fLc fLt fPl aNOTHING aE fRq fSl fS fP : Addr} {dCo dWo dWi dSu dLo dHi dLe dBo dHw dHs dHe dAf dWs dLc dLt dPl dRq dSl dS dP : FuncData}
theorem ok_law {f : Addr} {fd : FuncData} (F : Fun K "law" "law" sLaw f fd) (D : Txt K mg fCo fWo fWi fSu fLo fHi fLe fBo fHw fHs fHe fAf fWs fLc fLt fPl aNOTHING aE fRq fSl fS fP dCo dWo dWi dSu dLo dHi dLe dBo dHw dHs dHe dAf dWs dLc dLt dPl dRq dSl dS dP) (B : Blt mg) : FnG P w K mg base 10 f fd ["script"] (spLaw K) := by
  have GS : FnOk P w K mg base CX0 1 fS dS ["script"] (spSource K) := ok_source D.FS B
  have GP : FnOk P w K mg base CX0 1 fP dP ["source", "many"] spPick := ok_pick D.FP B
  have GSl : FnOk P w K mg base CX0 2 fSl dSl ["need", "costs"] (spSlotOf K) := ok_slotof D.FSl D.toDsl B
  have GWs : FnOk P w K mg base CX0 7 fWs dWs ["slots", "b"] (spWorks K) := ok_works D.toWks B
  have GLc : FnOk P w K mg base CX0 8 fLc dLc ["slots", "b"] (spLeasts K) := ok_leasts D.toWks B
  have GLt : FnOk P w K mg base CX0 9 fLt dLt ["slots", "b"] (spLeastC K) := ok_leastc D.toWks B
  have GLo : FnOk P w K mg base CX0 1 fLo dLo ["work"] (spLow K) := ok_low D.toWks B
  have GHi : FnOk P w K mg base CX0 1 fHi dHi ["work", "b"] (spHigh K) := ok_high D.toWks B
  have GPl : FnOk P w K mg base CX0 1 fPl dPl ["need", "most", "price"] (spPlain K) := ok_plain D.toWks B
  refine okG F scLaw (fun cdv A outer s H vs Q hr hg h => ?_)
  obtain ⟨a, ns, rfl, hS, hlen, q⟩ := h
  have hu64 := hr.units
  have hrLt := hr
  have hrLc := hr.mono (show 8 ≤ 9 by decide)
  have hrWs := hr.mono (show 7 ≤ 9 by decide)
  have hrSl := hr.mono (show 2 ≤ 9 by decide)
  have hrP := hr.mono (show 1 ≤ 9 by decide)
  have hrS := hrP
  have hrLo := hrP
  have hrHi := hrP
  have hrPl := hrP
  refine ⟨_, (pss_cons (ps_set (i := 1) scLaw.nd rfl (.inl rfl) (pe_call GS hrS (by rfl) D.gS D.FS.kp D.bS .nil pass0 (pa_cons (pv 0) pa_nil)))
      (pss_cons (ps_set (i := 2) scLaw.nd rfl (.inl rfl) (pe_call GSl hrSl (by rfl) D.gSl D.FSl.kp D.bSl .nil pass0 (pa_cons pe_int (pa_cons (pe_tup (pa_cons pe_int (pa_cons pe_int (pa_cons pe_int (pa_cons pe_int pa_nil))))) pa_nil))))
      (pss_cons (ps_set (i := 3) scLaw.nd rfl (.inl rfl) (pe_lst (pa_cons (pe_call GWs hrWs (by rfl) D.gWs D.FWs.kp D.bWs .nil pass0 (pa_cons (pe_tup (pa_cons (pv 2) pa_nil)) (pa_cons pe_int pa_nil))) (pa_cons (pe_call GWs hrWs (by rfl) D.gWs D.FWs.kp D.bWs .nil pass0 (pa_cons (pe_tup (pa_cons (pv 2) (pa_cons (pv 2) pa_nil))) (pa_cons pe_int pa_nil))) (pa_cons (pe_call GLc hrLc (by rfl) D.gLc D.FLc.kp D.bLc .nil pass0 (pa_cons (pe_tup (pa_cons (pv 2) (pa_cons (pv 2) (pa_cons (pv 2) pa_nil)))) (pa_cons pe_int pa_nil))) pa_nil)))))
      (pss_cons (ps_set (i := 4) scLaw.nd rfl (.inl rfl) (pe_lst (pa_cons (pe_lst (pa_cons (pe_tup (pa_cons pe_int (pa_cons pe_int (pa_cons pe_int (pa_cons (pe_tup (pa_cons (pe_un un_neg pe_int) (pa_cons pe_int (pa_cons pe_int pa_nil)))) pa_nil))))) pa_nil)) (pa_cons (pe_lst (pa_cons (pe_tup (pa_cons pe_int (pa_cons pe_int (pa_cons pe_int (pa_cons (pe_tup (pa_cons (pe_un un_neg pe_int) (pa_cons pe_int (pa_cons pe_int pa_nil)))) pa_nil))))) (pa_cons (pe_tup (pa_cons pe_int (pa_cons pe_int (pa_cons pe_int (pa_cons (pe_tup (pa_cons (pe_un un_neg pe_int) (pa_cons pe_int (pa_cons pe_int pa_nil)))) pa_nil))))) pa_nil))) (pa_cons (pe_lst (pa_cons pe_int (pa_cons pe_int (pa_cons pe_int pa_nil)))) pa_nil)))))
      (pss_cons (ps_if (pt_cmpR op_ne (pe_callB (call_reprD hg hu64) (by rfl) B.repr (by decide +kernel) (pa_cons (pv 3) pa_nil)) (pe_callB (call_reprD hg hu64) (by rfl) B.repr (by decide +kernel) (pa_cons (pv 4) pa_nil)) (nomark _))
        (pss_one (ps_ret pe_bl))
        pss_nil)
      (pss_cons (ps_set (i := 5) scLaw.nd rfl (.inl rfl) (pe_ix (r := rIxL K) ix_list (pe_call GWs hrWs (by rfl) D.gWs D.FWs.kp D.bWs .nil pass0 (pa_cons (pe_tup (pa_cons (pv 2) (pa_cons (pv 2) pa_nil))) (pa_cons pe_int pa_nil))) pe_int (fun _ _ => rfl)))
      (pss_cons (ps_if (pt_cmpR op_ne (pe_callB (call_reprD hg hu64) (by rfl) B.repr (by decide +kernel) (pa_cons (pe_lst (pa_cons (pe_call GLo hrLo (by rfl) D.gLo D.FLo.kp D.bLo .nil pass0 (pa_cons (pv 5) pa_nil)) (pa_cons (pe_call GHi hrHi (by rfl) D.gHi D.FHi.kp D.bHi .nil pass0 (pa_cons (pv 5) (pa_cons pe_int pa_nil))) (pa_cons (pe_call GHi hrHi (by rfl) D.gHi D.FHi.kp D.bHi .nil pass0 (pa_cons (pv 5) (pa_cons pe_int pa_nil))) (pa_cons (pe_call GHi hrHi (by rfl) D.gHi D.FHi.kp D.bHi .nil pass0 (pa_cons (pv 5) (pa_cons pe_int pa_nil))) pa_nil))))) pa_nil)) (pe_callB (call_reprD hg hu64) (by rfl) B.repr (by decide +kernel) (pa_cons (pe_lst (pa_cons pe_int (pa_cons pe_int (pa_cons pe_int (pa_cons pe_int pa_nil))))) pa_nil)) (nomark _))
        (pss_one (ps_ret pe_bl))
        pss_nil)
      (pss_cons (ps_par3 (i := 6) (j := 7) (l := 8) rfl scLaw.nd rfl rfl rfl (by decide) (by decide) (by decide) rfl rfl rfl (pa_cons (pe_tup (pa_cons pe_int (pa_cons pe_int (pa_cons pe_int (pa_cons (pe_tup pa_nil) pa_nil))))) (pa_cons (pe_tup (pa_cons pe_int (pa_cons pe_int (pa_cons pe_int (pa_cons (pe_tup pa_nil) pa_nil))))) (pa_cons (pe_op op_add pe_int (pe_call GP hrP (by rfl) D.gP D.FP.kp D.bP .nil pass0 (pa_cons (pv 1) (pa_cons (pe_op op_pow pe_int pe_int) pa_nil)))) pa_nil))) (by rfl))
      (pss_cons (ps_set (i := 4) scLaw.nd rfl (.inl rfl) (pe_lst (pa_cons (pe_tup (pa_cons pe_int (pa_cons pe_int (pa_cons (pe_op op_add pe_int (pe_op op_mul pe_int (pv 8))) (pa_cons (pe_tup pa_nil) pa_nil))))) (pa_cons (pe_tup (pa_cons pe_int (pa_cons pe_int (pa_cons (pe_op op_add pe_int (pe_op op_mul pe_int (pv 8))) (pa_cons (pe_tup pa_nil) pa_nil))))) (pa_cons (pe_tup (pa_cons pe_int (pa_cons pe_int (pa_cons (pe_op op_add pe_int (pe_op op_mul pe_int (pv 8))) (pa_cons (pe_tup pa_nil) pa_nil))))) pa_nil)))))
      (pss_cons (ps_if (pt_cmpR op_ne (pe_callB (call_reprD hg hu64) (by rfl) B.repr (by decide +kernel) (pa_cons (pe_lst (pa_cons (pe_call GLt hrLt (by rfl) D.gLt D.FLt.kp D.bLt .nil pass0 (pa_cons (pe_op op_repA (pe_tup (pa_cons (pv 6) (pa_cons (pv 7) pa_nil))) pe_int) (pa_cons (pv 8) pa_nil))) (pa_cons (pe_call GWs hrWs (by rfl) D.gWs D.FWs.kp D.bWs .nil pass0 (pa_cons (pe_tup (pa_cons (pv 6) (pa_cons (pv 7) (pa_cons (pv 6) pa_nil)))) (pa_cons (pv 8) pa_nil))) pa_nil))) pa_nil)) (pe_callB (call_reprD hg hu64) (by rfl) B.repr (by decide +kernel) (pa_cons (pe_lst (pa_cons (pe_op op_add pe_int (pe_op op_mul pe_int (pv 8))) (pa_cons (pv 4) pa_nil))) pa_nil)) (nomark _))
        (pss_one (ps_ret pe_bl))
        pss_nil)
      (pss_cons (ps_set (i := 9) scLaw.nd rfl (.inl rfl) (pe_op op_sub (pe_op op_pow pe_int pe_int) (pe_call GP hrP (by rfl) D.gP D.FP.kp D.bP .nil pass0 (pa_cons (pv 1) (pa_cons pe_int pa_nil)))))
      (pss_cons (ps_set (i := 3) scLaw.nd rfl (.inl rfl) (pe_lst (pa_cons (pe_call GLt hrLt (by rfl) D.gLt D.FLt.kp D.bLt .nil pass0 (pa_cons (pe_tup (pa_cons (pe_call GPl hrPl (by rfl) D.gPl D.FPl.kp D.bPl .nil pass0 (pa_cons (pv 9) (pa_cons (pv 9) (pa_cons pe_int pa_nil)))) pa_nil)) (pa_cons (pv 8) pa_nil))) (pa_cons (pe_call GWs hrWs (by rfl) D.gWs D.FWs.kp D.bWs .nil pass0 (pa_cons (pe_tup (pa_cons (pe_call GPl hrPl (by rfl) D.gPl D.FPl.kp D.bPl .nil pass0 (pa_cons (pv 9) (pa_cons (pv 9) (pa_cons pe_int pa_nil)))) pa_nil)) (pa_cons (pv 8) pa_nil))) pa_nil))))
      (pss_cons (ps_if (pt_cmpR op_ne (pe_callB (call_reprD hg hu64) (by rfl) B.repr (by decide +kernel) (pa_cons (pv 3) pa_nil)) (pe_callB (call_reprD hg hu64) (by rfl) B.repr (by decide +kernel) (pa_cons (pe_lst (pa_cons (pe_op op_add (pv 9) (pe_op op_mul (pv 9) (pv 8))) (pa_cons (pe_lst (pa_cons (pe_tup (pa_cons (pv 9) (pa_cons (pv 9) (pa_cons (pe_op op_mul (pv 9) (pv 8)) (pa_cons (pe_tup pa_nil) pa_nil))))) pa_nil)) pa_nil))) pa_nil)) (nomark _))
        (pss_one (ps_ret pe_bl))
        pss_nil)
      (pss_cons (ps_par (i := 10) (j := 8) rfl scLaw.nd rfl rfl (by decide) rfl rfl (pa_cons (pe_op op_add pe_int (pe_call GP hrP (by rfl) D.gP D.FP.kp D.bP .nil pass0 (pa_cons (pv 1) (pa_cons pe_int pa_nil)))) (pa_cons (pe_op op_add pe_int (pe_call GP hrP (by rfl) D.gP D.FP.kp D.bP .nil pass0 (pa_cons (pv 1) (pa_cons pe_int pa_nil)))) pa_nil)) (by rfl))
      (pss_cons (ps_set (i := 11) scLaw.nd rfl (.inl rfl) (pe_op op_catA (pe_op op_catA (pe_tup (pa_cons (pe_call GPl hrPl (by rfl) D.gPl D.FPl.kp D.bPl .nil pass0 (pa_cons pe_int (pa_cons pe_int (pa_cons pe_int pa_nil)))) pa_nil)) (pe_op op_repA (pe_tup (pa_cons (pe_call GPl hrPl (by rfl) D.gPl D.FPl.kp D.bPl .nil pass0 (pa_cons pe_int (pa_cons pe_int (pa_cons pe_int pa_nil)))) pa_nil)) (pv 10))) (pe_tup (pa_cons (pe_call GPl hrPl (by rfl) D.gPl D.FPl.kp D.bPl .nil pass0 (pa_cons pe_int (pa_cons pe_int (pa_cons pe_int pa_nil)))) pa_nil))))
      (pss_cons (ps_set (i := 4) scLaw.nd rfl (.inl rfl) (pe_op op_cat (pe_op op_rep (pe_lst (pa_cons (pe_op op_add (pv 8) pe_int) pa_nil)) (pe_op op_add (pv 10) pe_int)) (pe_lst (pa_cons (pe_op op_add (pe_op op_add (pv 8) pe_int) (pe_callB (call_min2 rfl) (by rfl) B.min boot_min (pa_cons (pv 10) (pa_cons (pv 8) pa_nil)))) pa_nil))))
      (pss_cons (ps_if (pt_cmpR op_ne (pe_callB (call_reprD hg hu64) (by rfl) B.repr (by decide +kernel) (pa_cons (pe_call GLc hrLc (by rfl) D.gLc D.FLc.kp D.bLc .nil pass0 (pa_cons (pv 11) (pa_cons (pv 8) pa_nil))) pa_nil)) (pe_callB (call_reprD hg hu64) (by rfl) B.repr (by decide +kernel) (pa_cons (pv 4) pa_nil)) (nomark _))
        (pss_one (ps_ret pe_bl))
        pss_nil)
      (pss_cons (ps_par (i := 12) (j := 13) rfl scLaw.nd rfl rfl (by decide) rfl rfl (pa_cons (pe_op op_add pe_int (pe_call GP hrP (by rfl) D.gP D.FP.kp D.bP .nil pass0 (pa_cons (pv 1) (pa_cons pe_int pa_nil)))) (pa_cons (pe_call GP hrP (by rfl) D.gP D.FP.kp D.bP .nil pass0 (pa_cons (pv 1) (pa_cons pe_int pa_nil))) pa_nil)) (by rfl))
      (pss_cons (ps_set (i := 11) scLaw.nd rfl (.inl rfl) (pe_op op_repA (pe_tup (pa_cons (pe_call GPl hrPl (by rfl) D.gPl D.FPl.kp D.bPl .nil pass0 (pa_cons pe_int (pa_cons pe_int (pa_cons (pv 13) pa_nil)))) pa_nil)) (pv 12)))
      (pss_one (ps_ret (pe_cmpR op_eq (pe_callB SkE.call_repr_int (by rfl) B.repr (by decide +kernel) (pa_cons (pe_call GLt hrLt (by rfl) D.gLt D.FLt.kp D.bLt .nil pass0 (pa_cons (pv 11) (pa_cons (pv 8) pa_nil))) pa_nil)) (pe_callB SkE.call_repr_int (by rfl) B.repr (by decide +kernel) (pa_cons (pe_op op_add (pe_op op_mul pe_int (pv 8)) (pe_op op_mul (pe_op op_mul pe_int (pv 13)) (pv 12))) pa_nil)) (nomark _))))))))))))))))))))))), ?_⟩
  walk_at "rd"
  refine ⟨_, _, rfl, hS, hlen, fun H1 p c S1 s1 np nc => ?_⟩
  walk_at "rd"
  refine ⟨by show 4 ≤ sizeLine; decide, fun t1 nt1 => ?_⟩
  generalize eH : upd _ _ _ = A1
  obtain ⟨a1, e1⟩ := new_of eH nt1
  walk_at "rd"
  refine ⟨0, t1, [4, 1, 0, 2], rfl, sq_of e1, by decide, by decide, fun k c hk => ?_, fun A2 v a2 hv => ?_⟩
  · match k, hk with
    | 0, hk => rw [← Option.some.inj hk]; decide +kernel
    | 1, hk => rw [← Option.some.inj hk]; decide +kernel
    | 2, hk => rw [← Option.some.inj hk]; decide +kernel
    | 3, hk => rw [← Option.some.inj hk]; decide +kernel
    | n + 4, hk => simp at hk
  have eo : (⟨0, 0 + ((([4, 1, 0, 2] : List Int).length - 1 : Nat) : Int), ([4, 1, 0, 2] : List Int).getD 0 0, risesL [4, 1, 0, 2] (([4, 1, 0, 2] : List Int).length - 1)⟩ : Slt) = offS := rfl
  rw [eo] at hv
  have lo : offS.Len := ⟨by decide, by decide, by decide⟩
  have S2 := (S1.same a1).same a2
  clear e1 a1 a2 eo S1 s1
  walk_at "rd"
  refine ⟨by show 1 ≤ sizeLine; decide, fun t3 nt3 => ?_⟩
  generalize eH : upd _ _ _ = A3
  obtain ⟨a3, e3⟩ := new_of eH nt3
  walk_at "rd"
  refine ⟨t3, 2, [v], [offS], rfl, sq_of e3, .cons (hv.same a3) .nil, by simp [lo], by decide, by decide, by decide, fun A4 l4 w4 a4 e4 k4 => ?_⟩
  walk_at "rd"
  refine ⟨by show 2 ≤ sizeLine; decide, fun t5 nt5 => ?_⟩
  generalize eH : upd _ _ _ = A5
  obtain ⟨a5, e5⟩ := new_of eH nt5
  walk_at "rd"
  have hv5 := hv.same ((a3.trans a4).trans a5)
  refine ⟨t5, 2, [v, v], [offS, offS], rfl, sq_of e5, .cons hv5 (.cons hv5 .nil), by simp [lo], by decide, by decide, by decide, fun A6 l6 w6 a6 e6 k6 => ?_⟩
  walk_at "rd"
  refine ⟨by show 3 ≤ sizeLine; decide, fun t7 nt7 => ?_⟩
  generalize eH : upd _ _ _ = A7
  obtain ⟨a7, e7⟩ := new_of eH nt7
  walk_at "rd"
  have hv7 := hv5.same (a6.trans a7)
  refine ⟨t7, 2, [v, v, v], [offS, offS, offS], rfl, sq_of e7, .cons hv7 (.cons hv7 (.cons hv7 .nil)), by simp [lo], by decide, by decide, by decide, fun A8 l8 a8 e8 => ?_⟩
  walk_at "rd"
  refine ⟨by show 3 ≤ sizeLine; decide, fun tl ntl => ?_⟩
  generalize eH : upd _ _ _ = A9
  obtain ⟨a9, e9⟩ := new_of eH ntl
  walk_at "rd"
  have g89 := Same.trans a8 a9
  have g69 := (Same.trans a6 a7).trans g89
  have g49 := (a4.trans a5).trans g69
  have tD : Dp K A9 (.ref tl) (.list [.list ((worksW w0 2 [offS]).map sltD), .list ((worksW w0 2 [offS, offS]).map sltD), .list (intsD ((worksW w0 2 [offS, offS, offS]).map leastW))]) :=
    .lst (.inl (.inl e9)) (.cons (.lst (.inl (.inl ((a5.trans g69) _ _ e4))) (dp_sameAll (a5.trans g69) _ _ (dp_slts k4))) (.cons (.lst (.inl (.inl ((a7.trans g89) _ _ e6))) (dp_sameAll (a7.trans g89) _ _ (dp_slts k6)))
      (.cons (nul_ints (a9 _ _ e8)) .nil)))
  have hv := hv5.same g69
  have S9 := S2.same ((a3.trans g49))
  clear a3 a4 a5 a6 a7 a8 a9 e3 e4 e5 e6 e7 e8 e9 k4 k6 g89 g69 g49 hv5 hv7 S2 nt1 nt3 nt5 nt7 ntl eH
  refine ⟨by show 3 ≤ sizeLine; decide, fun u1 nu1 => ?_⟩
  generalize eH : upd _ _ _ = B1
  obtain ⟨b1, c1⟩ := new_of eH nu1
  walk_at "rd"
  refine ⟨by show 4 ≤ sizeLine; decide, fun u2 nu2 => ?_⟩
  generalize eH : upd _ _ _ = B2
  obtain ⟨b2, c2⟩ := new_of eH nu2
  walk_at "rd"
  refine ⟨by show 1 ≤ sizeLine; decide, fun u3 nu3 => ?_⟩
  generalize eH : upd _ _ _ = B3
  obtain ⟨b3, c3⟩ := new_of eH nu3
  walk_at "rd"
  refine ⟨by show 3 ≤ sizeLine; decide, fun u4 nu4 => ?_⟩
  generalize eH : upd _ _ _ = B4
  obtain ⟨b4, c4⟩ := new_of eH nu4
  walk_at "rd"
  refine ⟨by show 4 ≤ sizeLine; decide, fun u5 nu5 => ?_⟩
  generalize eH : upd _ _ _ = B5
  obtain ⟨b5, c5⟩ := new_of eH nu5
  walk_at "rd"
  refine ⟨by show 3 ≤ sizeLine; decide, fun u6 nu6 => ?_⟩
  generalize eH : upd _ _ _ = B6
  obtain ⟨b6, c6⟩ := new_of eH nu6
  walk_at "rd"
  refine ⟨by show 4 ≤ sizeLine; decide, fun u7 nu7 => ?_⟩
  generalize eH : upd _ _ _ = B7
  obtain ⟨b7, c7⟩ := new_of eH nu7
  walk_at "rd"
  refine ⟨by show 2 ≤ sizeLine; decide, fun u8 nu8 => ?_⟩
  generalize eH : upd _ _ _ = B8
  obtain ⟨b8, c8⟩ := new_of eH nu8
  walk_at "rd"
  refine ⟨by show 3 ≤ sizeLine; decide, fun u9 nu9 => ?_⟩
  generalize eH : upd _ _ _ = B9
  obtain ⟨b9, c9⟩ := new_of eH nu9
  walk_at "rd"
  refine ⟨by show 3 ≤ sizeLine; decide, fun dl ndl => ?_⟩
  generalize eH : upd _ _ _ = B10
  obtain ⟨b10, c10⟩ := new_of eH ndl
  walk_at "rd"
  have c1 := ((((((((Same.trans b2 b3).trans b4).trans b5).trans b6).trans b7).trans b8).trans b9).trans b10) _ _ c1
  have c2 := (((((((Same.trans b3 b4).trans b5).trans b6).trans b7).trans b8).trans b9).trans b10) _ _ c2
  have c3 := ((((((Same.trans b4 b5).trans b6).trans b7).trans b8).trans b9).trans b10) _ _ c3
  have c4 := (((((Same.trans b5 b6).trans b7).trans b8).trans b9).trans b10) _ _ c4
  have c5 := ((((Same.trans b6 b7).trans b8).trans b9).trans b10) _ _ c5
  have c6 := (((Same.trans b7 b8).trans b9).trans b10) _ _ c6
  have c7 := ((Same.trans b8 b9).trans b10) _ _ c7
  have c8 := (Same.trans b9 b10) _ _ c8
  have c9 := b10 _ _ c9
  have b010 : Same A9 B10 := (((((((((Same.trans b1 b2).trans b3).trans b4).trans b5).trans b6).trans b7).trans b8).trans b9).trans b10)
  have dD : Dp K B10 (.ref dl) (.list [.list [sltD ⟨0, 3, 4, [-1, 1, 4]⟩], .list [sltD ⟨0, 3, 4, [-1, 1, 4]⟩, sltD ⟨0, 3, 7, [-3, 0, 4]⟩], .list (intsD [3, 4, 4])]) :=
    .lst (.inl (.inl c10)) (.cons (.lst (.inl (.inl c3)) (.cons (dp_slt ⟨u2, u1, rfl, sq_of c2, sq_of c1⟩) .nil))
      (.cons (.lst (.inl (.inl c8)) (.cons (dp_slt ⟨u5, u4, rfl, sq_of c5, sq_of c4⟩) (.cons (dp_slt ⟨u7, u6, rfl, sq_of c7, sq_of c6⟩) .nil))) (.cons (nul_ints c9) .nil)))
  have tD := dp_same b010 _ _ tD
  have hv := hv.same b010
  have S := S9.same b010
  have e1 : worksW w0 2 [offS] = [⟨0, 3, 4, [-1, 1, 4]⟩] := rfl
  have e2 : worksW w0 2 [offS, offS] = [⟨0, 3, 4, [-1, 1, 4]⟩, ⟨0, 3, 7, [-3, 0, 4]⟩] := rfl
  have e3 : (worksW w0 2 [offS, offS, offS]).map leastW = [3, 4, 4] := by decide +kernel
  rw [e1, e2, e3] at tD
  have tD : Dp K B10 (.ref tl) (.list [.list [sltD ⟨0, 3, 4, [-1, 1, 4]⟩], .list [sltD ⟨0, 3, 4, [-1, 1, 4]⟩, sltD ⟨0, 3, 7, [-3, 0, 4]⟩], .list (intsD [3, 4, 4])]) := tD
  clear e1 e2 e3 b1 b2 b3 b4 b5 b6 b7 b8 b9 b10 c1 c2 c3 c4 c5 c6 c7 c8 c9 c10 S9 b010 eH
  refine ⟨_, _, rfl, tD, ⟨by decide +kernel, by decide +kernel, by decide +kernel⟩, ?_⟩
  generalize eQ : PyData.shown _ = sh
  walk_at "rd"
  refine ⟨_, _, rfl, dD, ⟨by decide +kernel, by decide +kernel, by decide +kernel⟩, ?_⟩
  rw [eQ]
  clear eQ tD dD
  refine ⟨rfl, ?_⟩
  walk_at "rd"
  refine ite2 (fun c => absurd c (by simp)) (fun _ => ?_)
  refine st_eq (σ' := [some (.ref a), some (.ref p), _, _, _, _, _, _, _, _, _, _, _, _]) rfl ?_
  walk_at "rd"
  refine ⟨by show 2 ≤ sizeLine; decide, fun t1 nt1 => ?_⟩
  generalize eH : upd _ _ _ = C1
  obtain ⟨a1, e1⟩ := new_of eH nt1
  walk_at "rd"
  have hv1 := hv.same a1
  refine ⟨t1, 2, [v, v], [offS, offS], rfl, sq_of e1, .cons hv1 (.cons hv1 .nil), by simp [lo], by decide, by decide, by decide, fun C2 l2 w2 a2 e2 k2 => ?_⟩
  rw [show worksW w0 2 [offS, offS] = [⟨0, 3, 4, [-1, 1, 4]⟩, ⟨0, 3, 7, [-3, 0, 4]⟩] from rfl] at k2
  obtain ⟨x0, x1, rfl, k0, k1⟩ : ∃ x0 x1, w2 = [x0, x1] ∧ SltK K C2 x0 ⟨0, 3, 4, [-1, 1, 4]⟩ ∧ SltK K C2 x1 ⟨0, 3, 7, [-3, 0, 4]⟩ := by
    cases k2 with
    | cons z1 z2 =>
      cases z2 with
      | cons z3 z4 =>
        cases z4
        exact ⟨_, _, rfl, z1, z3⟩
  walk_at "rd"
  refine ⟨_, _, _, _, rfl, rfl, .inl (.inl e2), atI_nat (j := 1) rfl, ?_⟩
  walk_at "rd"
  refine ⟨x1, _, rfl, k1, by decide, fun C3 a3 => ?_⟩
  walk_at "rd"
  refine ⟨x1, 2, _, rfl, k1.same a3, by decide, fun C4 a4 => ?_⟩
  walk_at "rd"
  have k4 := (k1.same a3).same a4
  refine ⟨x1, 4, _, rfl, k4, by decide, fun C5 a5 => ?_⟩
  walk_at "rd"
  refine ⟨x1, 9, _, rfl, k4.same a5, by decide, fun C6 a6 => ?_⟩
  walk_at "rd"
  refine ⟨by show 4 ≤ sizeLine; decide, fun t7 nt7 => ?_⟩
  generalize eH : upd _ _ _ = C7
  obtain ⟨a7, e7⟩ := new_of eH nt7
  walk_at "rd"
  have e7 : C7 t7 = some (.lst (([1, 2, 3, 3] : List Int).map V.int)) := by
    rw [e7]
    have h1 : lowW ⟨0, 3, 7, [-3, 0, 4]⟩ = 1 := by decide +kernel
    have h2 : highW ⟨0, 3, 7, [-3, 0, 4]⟩ 2 = 2 := by decide +kernel
    have h3 : highW ⟨0, 3, 7, [-3, 0, 4]⟩ 4 = 3 := by decide +kernel
    have h4 : highW ⟨0, 3, 7, [-3, 0, 4]⟩ 9 = 3 := by decide +kernel
    rw [h1, h2, h3, h4]
    rfl
  have S := ((((((S.same a1).same a2).same a3).same a4).same a5).same a6).same a7
  clear hv hv1 a1 a2 a3 a4 a5 a6 a7 e1 e2 k0 k1 k2 k4
  refine ⟨_, _, rfl, nul_ints e7, ⟨by decide +kernel, by decide +kernel, by decide +kernel⟩, ?_⟩
  generalize eQ : PyData.shown _ = sh2
  walk_at "rd"
  refine ⟨by show 4 ≤ sizeLine; decide, fun t8 nt8 => ?_⟩
  generalize eH : upd _ _ _ = C8
  obtain ⟨a8, e8⟩ := new_of eH nt8
  walk_at "rd"
  have e8 : C8 t8 = some (.lst (([1, 2, 3, 3] : List Int).map V.int)) := e8
  refine ⟨_, _, rfl, nul_ints e8, ⟨by decide +kernel, by decide +kernel, by decide +kernel⟩, ?_⟩
  rw [eQ]
  clear eQ
  have S := S.same a8
  refine ⟨rfl, ?_⟩
  walk_at "rd"
  refine ite2 (fun c => absurd c (by simp)) (fun _ => ?_)
  refine st_eq (σ' := [some (.ref a), some (.ref p), _, _, _, _, _, _, _, _, _, _, _, _]) rfl ?_
  clear a8 e7 e8
  walk_at "rd"
  refine ⟨by show 0 ≤ sizeLine; decide, fun q1 nq1 => ?_⟩
  generalize eH : upd _ _ _ = E1
  obtain ⟨a1, e1⟩ := new_of eH nq1
  walk_at "rd"
  refine ⟨by show 4 ≤ sizeLine; decide, fun q2 nq2 => ?_⟩
  generalize eH : upd _ _ _ = E2
  obtain ⟨a2, e2⟩ := new_of eH nq2
  walk_at "rd"
  refine ⟨by show 0 ≤ sizeLine; decide, fun q3 nq3 => ?_⟩
  generalize eH : upd _ _ _ = E3
  obtain ⟨a3, e3⟩ := new_of eH nq3
  walk_at "rd"
  refine ⟨by show 4 ≤ sizeLine; decide, fun q4 nq4 => ?_⟩
  generalize eH : upd _ _ _ = E4
  obtain ⟨a4, e4⟩ := new_of eH nq4
  walk_at "rd"
  refine ⟨⟨by decide, by decide, by decide⟩, ?_⟩
  walk_at "rd"
  have S4 := (((S.same a1).same a2).same a3).same a4
  refine ⟨p, c, _, rfl, S4, by decide, fun E5 r S5 o5 r0 r1 => ?_⟩
  have r1 : r < 1000000 ∨ r = 0 := r1
  have f1 := o5.tup S4 ((Same.trans a2 a3).trans a4 _ _ e1)
  have f2 := o5.tup S4 ((Same.trans a3 a4) _ _ e2)
  have f3 := o5.tup S4 (a4 _ _ e3)
  have f4 := o5.tup S4 e4
  clear a1 a2 a3 a4 e1 e2 e3 e4 S4 S o5 nq1 nq2 nq3 nq4 eH
  walk_at "rd"
  obtain ⟨b, eB⟩ : ∃ b, b = 1 + r := ⟨_, rfl⟩
  have bb : 1 ≤ b ∧ b ≤ 1000000 := by omega
  refine ⟨.ref q2, .ref q4, .int b, by subst eB; rfl, ?_⟩
  clear eB r0 r1
  walk_at "rd"
  refine ⟨mull ⟨by decide, by decide⟩, ?_⟩
  walk_at "rd"
  refine ⟨by show 0 ≤ sizeLine; decide, fun v0 nv0 => ?_⟩
  generalize eH : upd _ _ _ = F1
  obtain ⟨a1, ev0⟩ := new_of eH nv0
  walk_at "rd"
  refine ⟨by show 4 ≤ sizeLine; decide, fun w0 nw0 => ?_⟩
  generalize eH : upd _ _ _ = F2
  obtain ⟨a2, ew0⟩ := new_of eH nw0
  walk_at "rd"
  refine ⟨mull ⟨by decide, by decide⟩, ?_⟩
  walk_at "rd"
  refine ⟨by show 0 ≤ sizeLine; decide, fun v1 nv1 => ?_⟩
  generalize eH : upd _ _ _ = F3
  obtain ⟨a3, ev1⟩ := new_of eH nv1
  walk_at "rd"
  refine ⟨by show 4 ≤ sizeLine; decide, fun w1 nw1 => ?_⟩
  generalize eH : upd _ _ _ = F4
  obtain ⟨a4, ew1⟩ := new_of eH nw1
  walk_at "rd"
  refine ⟨mull ⟨by decide, by decide⟩, ?_⟩
  walk_at "rd"
  refine ⟨by show 0 ≤ sizeLine; decide, fun v2 nv2 => ?_⟩
  generalize eH : upd _ _ _ = F5
  obtain ⟨a5, ev2⟩ := new_of eH nv2
  walk_at "rd"
  refine ⟨by show 4 ≤ sizeLine; decide, fun w2 nw2 => ?_⟩
  generalize eH : upd _ _ _ = F6
  obtain ⟨a6, ew2⟩ := new_of eH nw2
  walk_at "rd"
  refine ⟨by show 3 ≤ sizeLine; decide, fun dl ndl => ?_⟩
  generalize eH : upd _ _ _ = F7
  obtain ⟨a7, ed⟩ := new_of eH ndl
  walk_at "rd"
  refine ⟨by show 2 ≤ sizeLine; decide, fun z1 nz1 => ?_⟩
  generalize eH : upd _ _ _ = F8
  obtain ⟨a8, ez⟩ := new_of eH nz1
  walk_at "rd"
  refine ⟨z1, 3, _, rfl, rfl, sq_of ez, by decide, by decide, by show 2 ≤ 1000; decide, fun e => absurd e (by simp), fun _ z2 nz2 => ?_⟩
  generalize eH : upd _ _ _ = F9
  obtain ⟨a9, ez2⟩ := new_of eH nz2
  have ez2 : F9 z2 = some (.tup [.ref q2, .ref q4, .ref q2, .ref q4, .ref q2, .ref q4]) := ez2
  have ev0 := (((((((Same.trans a2 a3).trans a4).trans a5).trans a6).trans a7).trans a8).trans a9) _ _ ev0
  have ew0 := ((((((Same.trans a3 a4).trans a5).trans a6).trans a7).trans a8).trans a9) _ _ ew0
  have ev1 := (((((Same.trans a4 a5).trans a6).trans a7).trans a8).trans a9) _ _ ev1
  have ew1 := ((((Same.trans a5 a6).trans a7).trans a8).trans a9) _ _ ew1
  have ev2 := (((Same.trans a6 a7).trans a8).trans a9) _ _ ev2
  have ew2 := ((Same.trans a7 a8).trans a9) _ _ ew2
  have ed := (Same.trans a8 a9) _ _ ed
  have g59 := ((((((((Same.trans a1 a2).trans a3).trans a4).trans a5).trans a6).trans a7).trans a8).trans a9)
  have hU : SltK K F9 (.ref q2) sU := ⟨q2, q1, rfl, sq_of (g59 _ _ f2), sq_of (g59 _ _ f1)⟩
  have hD : SltK K F9 (.ref q4) sDn := ⟨q4, q3, rfl, sq_of (g59 _ _ f4), sq_of (g59 _ _ f3)⟩
  have lU : sU.Len := ⟨by decide, by decide, by decide⟩
  have lD : sDn.Len := ⟨by decide, by decide, by decide⟩
  have S := S5.same g59
  clear a1 a2 a3 a4 a5 a6 a7 a8 a9 g59 f1 f2 f3 f4 S5 ez eH
  walk_at "rd"
  refine ⟨z2, b, _, _, rfl, sq_of ez2, .cons hU (.cons hD (.cons hU (.cons hD (.cons hU (.cons hD .nil))))), by simp [lU, lD], by decide, by omega, by omega, fun F10 a10 => ?_⟩
  rw [ud_least]
  walk_at "rd"
  refine ⟨by show 3 ≤ sizeLine; decide, fun z3 nz3 => ?_⟩
  generalize eH : upd _ _ _ = F11
  obtain ⟨a11, ez3⟩ := new_of eH nz3
  walk_at "rd"
  have a1011 := a10.trans a11
  refine ⟨z3, b, _, _, rfl, sq_of ez3, .cons (hU.same a1011) (.cons (hD.same a1011) (.cons (hU.same a1011) .nil)), by simp [lU, lD], by decide, by omega, by omega, fun F12 l12 w12 a12 e12 k12 => ?_⟩
  rw [ud_works] at k12
  walk_at "rd"
  refine ⟨by show 2 ≤ sizeLine; decide, fun tl ntl => ?_⟩
  generalize eH : upd _ _ _ = F13
  obtain ⟨a13, et⟩ := new_of eH ntl
  walk_at "rd"
  have g913 := (a1011.trans a12).trans a13
  have tD : Dp K F13 (.ref tl) (.list [.int (33 + 6 * b), .list [sltD ⟨2, 2, 6 + 2 * b, []⟩, sltD ⟨0, 0, 11 + 2 * b, []⟩, sltD ⟨2, 2, 17 + 4 * b, []⟩]]) :=
    .lst (.inl (.inl et)) (.cons (.int _) (.cons (.lst (.inl (.inl (a13 _ _ e12))) (dp_sameAll a13 _ _ (dp_slts k12))) .nil))
  have dD : Dp K F13 (.ref dl) (.list [sltD ⟨2, 2, 6 + 2 * b, []⟩, sltD ⟨0, 0, 11 + 2 * b, []⟩, sltD ⟨2, 2, 17 + 4 * b, []⟩]) :=
    .lst (.inl (.inl (g913 _ _ ed))) (.cons (dp_slt ⟨w0, v0, rfl, sq_of (g913 _ _ ew0), sq_of (g913 _ _ ev0)⟩) (.cons (dp_slt ⟨w1, v1, rfl, sq_of (g913 _ _ ew1), sq_of (g913 _ _ ev1)⟩) (.cons (dp_slt ⟨w2, v2, rfl, sq_of (g913 _ _ ew2), sq_of (g913 _ _ ev2)⟩) .nil)))
  have S := S.same g913
  clear a10 a11 a12 a13 a1011 g913 ev0 ev1 ev2 ew0 ew1 ew2 hU hD k12 e12 et ed ez2 ez3 eH
  have sh : Shows (.list [.int (33 + 6 * b), .list [sltD ⟨2, 2, 6 + 2 * b, []⟩, sltD ⟨0, 0, 11 + 2 * b, []⟩, sltD ⟨2, 2, 17 + 4 * b, []⟩]]) := by
    refine shows_of ?_ ?_ ?_
    · simp only [sltD, Lil, LilAll, and_true, true_and, intsD, List.map_nil]
      exact ⟨nat150 (by omega) (by omega), ⟨by decide, by decide, nat150 (by omega) (by omega)⟩, ⟨by decide, by decide, nat150 (by omega) (by omega)⟩, by decide, by decide, nat150 (by omega) (by omega)⟩
    · simp [sltD, intsD, PyData.depth, PyData.depthAll]
    · simp only [sltD, WK.cost, costAll, intsD, List.map_nil]
      decide
  refine ⟨_, _, rfl, tD, sh, ?_⟩
  generalize eQ : PyData.shown _ = shn
  walk_at "rd"
  refine ⟨mull ⟨by decide, by decide⟩, ?_⟩
  walk_at "rd"
  refine ⟨by show 2 ≤ sizeLine; decide, fun rl nrl => ?_⟩
  generalize eH : upd _ _ _ = F14
  obtain ⟨a14, er⟩ := new_of eH nrl
  walk_at "rd"
  have rD : Dp K F14 (.ref rl) (.list [.int (33 + 6 * b), .list [sltD ⟨2, 2, 6 + 2 * b, []⟩, sltD ⟨0, 0, 11 + 2 * b, []⟩, sltD ⟨2, 2, 17 + 4 * b, []⟩]]) :=
    .lst (.inl (.inl er)) (.cons (.int _) (.cons (dp_same a14 _ _ dD) .nil))
  refine ⟨_, _, rfl, rD, sh, ?_⟩
  rw [eQ]
  clear eQ
  have S := S.same a14
  refine ⟨rfl, ?_⟩
  walk_at "rd"
  refine ite2 (fun c => absurd c (by simp)) (fun _ => ?_)
  refine st_eq (σ' := [some (.ref a), some (.ref p), _, _, _, _, _, _, _, _, _, _, _, _]) rfl ?_
  clear a14 er tD dD rD sh
  walk_at "rd"
  refine ⟨⟨by decide, by decide, by decide⟩, ?_⟩
  walk_at "rd"
  refine ⟨p, c, _, rfl, S, by decide, fun I1 r S1 o1 r0 r1 => ?_⟩
  obtain ⟨far, eF⟩ : ∃ z : Int, z = 10 ^ (6 : Int).toNat - r := ⟨_, rfl⟩
  have ff : 0 ≤ far ∧ far ≤ 1000000 := by
    rw [show (10 : Int) ^ (6 : Int).toNat = 1000000 from by decide] at eF
    omega
  have ep : ∀ z, plainW far far z = ⟨far, far, far * z, []⟩ := fun z => by
    unfold plainW
    rw [Int.sub_self]
    rfl
  clear S o1 r0 r1
  walk_at "rd"
  refine ⟨far, far, 1, by subst eF; rfl, Int.le_refl _, by omega, by decide, by decide, fun I2 v1 a2 h1 => ?_⟩
  have lf1 := plainW_len (need := far) (most := far) (price := 1) (Int.le_refl _) (by omega)
  have lf0 := plainW_len (need := far) (most := far) (price := 0) (Int.le_refl _) (by omega)
  rw [ep] at h1 lf1 lf0
  walk_at "rd"
  refine ⟨by show 1 ≤ sizeLine; decide, fun y1 ny1 => ?_⟩
  generalize eH : upd _ _ _ = I3
  obtain ⟨a3, e3⟩ := new_of eH ny1
  walk_at "rd"
  refine ⟨y1, b, _, _, rfl, sq_of e3, .cons (h1.same a3) .nil, by simpa using lf1, by show 1 ≤ 5000; decide, by omega, by omega, fun I4 a4 => ?_⟩
  rw [far_least ff.1]
  walk_at "rd"
  refine ⟨far, far, 0, by subst eF; rfl, Int.le_refl _, by omega, by decide, by decide, fun I5 v2 a5 h2 => ?_⟩
  rw [ep] at h2
  walk_at "rd"
  refine ⟨by show 1 ≤ sizeLine; decide, fun y2 ny2 => ?_⟩
  generalize eH : upd _ _ _ = I6
  obtain ⟨a6, e6⟩ := new_of eH ny2
  walk_at "rd"
  refine ⟨y2, b, _, _, rfl, sq_of e6, .cons (h2.same a6) .nil, by simpa using lf0, by show 1 ≤ 5000; decide, by omega, by omega, fun I7 l7 w7 a7 e7 k7 => ?_⟩
  rw [far_works ff.1] at k7
  walk_at "rd"
  refine ⟨by show 2 ≤ sizeLine; decide, fun tl ntl => ?_⟩
  generalize eH : upd _ _ _ = I8
  obtain ⟨a8, e8⟩ := new_of eH ntl
  walk_at "rd"
  have S := ((((((S1.same a2).same a3).same a4).same a5).same a6).same a7).same a8
  have fb : 0 ≤ far * b ∧ far * b ≤ 1000000 * 1000000 := ⟨Int.mul_nonneg ff.1 (by omega), Int.mul_le_mul ff.2 bb.2 (by omega) (by omega)⟩
  have tD : Dp K I8 (.ref tl) (.list [.int (far + far * b), .list [sltD ⟨far, far, far * b, []⟩]]) := by
    rw [Int.mul_one] at e8
    rw [Int.mul_zero, Int.zero_add] at k7
    exact .lst (.inl (.inl e8)) (.cons (.int _) (.cons (.lst (.inl (.inl (a8 _ _ e7))) (dp_sameAll a8 _ _ (dp_slts k7))) .nil))
  have sh : Shows (.list [.int (far + far * b), .list [sltD ⟨far, far, far * b, []⟩]]) := by
    refine shows_of ?_ ?_ ?_
    · simp only [sltD, Lil, LilAll, and_true, true_and, intsD, List.map_nil]
      exact ⟨nat150 (by omega) (by omega), nat150 (by omega) (by omega), nat150 (by omega) (by omega), nat150 (by omega) (by omega)⟩
    · simp [sltD, intsD, PyData.depth, PyData.depthAll]
    · simp only [sltD, WK.cost, costAll, intsD, List.map_nil]
      decide
  clear a2 a3 a4 a5 a6 a7 a8 e3 e6 e7 e8 h1 h2 k7 lf0 lf1 S1 eH
  refine ⟨_, _, rfl, tD, sh, ?_⟩
  generalize eQ : PyData.shown _ = shn2
  walk_at "rd"
  refine ⟨mulr ⟨by omega, by omega⟩, ?_⟩
  walk_at "rd"
  refine ⟨mulr ⟨by omega, by omega⟩, ?_⟩
  walk_at "rd"
  refine ⟨by show 0 ≤ sizeLine; decide, fun q1 nq1 => ?_⟩
  generalize eH : upd _ _ _ = I9
  obtain ⟨a9, e9⟩ := new_of eH nq1
  walk_at "rd"
  refine ⟨by show 4 ≤ sizeLine; decide, fun q2 nq2 => ?_⟩
  generalize eH : upd _ _ _ = I10
  obtain ⟨a10, e10⟩ := new_of eH nq2
  walk_at "rd"
  refine ⟨by show 1 ≤ sizeLine; decide, fun q3 nq3 => ?_⟩
  generalize eH : upd _ _ _ = I11
  obtain ⟨a11, e11⟩ := new_of eH nq3
  walk_at "rd"
  refine ⟨by show 2 ≤ sizeLine; decide, fun q4 nq4 => ?_⟩
  generalize eH : upd _ _ _ = I12
  obtain ⟨a12, e12⟩ := new_of eH nq4
  walk_at "rd"
  have e12 : I12 q4 = some (.lst [.int (far + far * b), .ref q3]) := by subst eF; exact e12
  have e10 : I10 q2 = some (.tup [.int far, .int far, .int (far * b), .ref q1]) := by subst eF; exact e10
  have rD : Dp K I12 (.ref q4) (.list [.int (far + far * b), .list [sltD ⟨far, far, far * b, []⟩]]) :=
    .lst (.inl (.inl e12)) (.cons (.int _) (.cons (.lst (.inl (.inl (a12 _ _ e11))) (.cons (dp_slt ⟨q2, q1, rfl, sq_of ((Same.trans a11 a12) _ _ e10), sq_of (((Same.trans a10 a11).trans a12) _ _ e9)⟩) .nil)) .nil))
  refine ⟨_, _, rfl, rD, sh, ?_⟩
  rw [eQ]
  clear eQ
  have S := (((S.same a9).same a10).same a11).same a12
  refine ⟨rfl, ?_⟩
  walk_at "rd"
  refine ite2 (fun c => absurd c (by simp)) (fun _ => ?_)
  refine st_eq (σ' := [some (.ref a), some (.ref p), _, _, _, _, _, _, _, _, _, _, _, _]) rfl ?_
  clear a9 a10 a11 a12 e9 e10 e11 e12 tD rD sh ep fb ff
  walk_at "rd"
  refine ⟨p, c, _, rfl, S, by decide, fun I1 r S1 o1 r0 r1 => ?_⟩
  walk_at "rd"
  refine ⟨p, c, _, rfl, S1, by decide, fun I2 r2 S2 o2 r20 r21 => ?_⟩
  obtain ⟨gap, eG⟩ : ∃ z : Int, z = 1 + r := ⟨_, rfl⟩
  obtain ⟨b, eB⟩ : ∃ z : Int, z = 1 + r2 := ⟨_, rfl⟩
  have bb : 1 ≤ b ∧ b ≤ 60 := by omega
  have gg : 1 ≤ gap ∧ gap ≤ 60 := by omega
  obtain ⟨n, hn⟩ : ∃ n : Nat, gap = ((n + 1 : Nat) : Int) := ⟨(gap - 1).toNat, by omega⟩
  have ep1 : plainW 1 1 1 = p1 := rfl
  have ep0 : plainW 0 1 1 = p0 := rfl
  have lp1 : p1.Len := ⟨by decide, by decide, by decide⟩
  have lp0 : p0.Len := ⟨by decide, by decide, by decide⟩
  clear o1 o2 S S1
  walk_at "rd"
  refine ⟨1, 1, 1, rfl, by decide, by decide, by decide, by decide, fun I3 v1 a3 h1 => ?_⟩
  rw [ep1] at h1
  walk_at "rd"
  refine ⟨by show 1 ≤ sizeLine; decide, fun y1 ny1 => ?_⟩
  generalize eH : upd _ _ _ = I4
  obtain ⟨a4, e4⟩ := new_of eH ny1
  walk_at "rd"
  refine ⟨0, 1, 1, rfl, by decide, by decide, by decide, by decide, fun I5 v0 a5 h0 => ?_⟩
  rw [ep0] at h0
  walk_at "rd"
  refine ⟨by show 1 ≤ sizeLine; decide, fun y0 ny0 => ?_⟩
  generalize eH : upd _ _ _ = I6
  obtain ⟨a6, e6⟩ := new_of eH ny0
  walk_at "rd"
  refine repV (k := gap) (by subst eG; rfl) (sq_of e6) (by omega) (by omega) fun z2 I7 a7 e7 => ?_
  refine catB (sq_same ((a5.trans a6).trans a7) (sq_of e4)) e7 ?_ fun z3 I8 a8 e8 => ?_
  · rw [List.length_replicate]
    exact Nat.le_of_lt (many_small (by show 1 + _ ≤ _; omega))
  walk_at "rd"
  refine ⟨1, 1, 1, rfl, by decide, by decide, by decide, by decide, fun I9 v9 a9 h9 => ?_⟩
  rw [ep1] at h9
  walk_at "rd"
  refine ⟨by show 1 ≤ sizeLine; decide, fun y9 ny9 => ?_⟩
  generalize eH : upd _ _ _ = I10
  obtain ⟨a10, e10⟩ := new_of eH ny9
  walk_at "rd"
  refine catB (sq_same (a9.trans a10) e8) (sq_of e10) ?_ fun z4 I11 a11 e11 => ?_
  · rw [List.length_append, List.length_replicate]
    exact Nat.le_of_lt (many_small (by show 1 + _ + 1 ≤ _; omega))
  have g811 := (a9.trans a10).trans a11
  have g58 := (a6.trans a7).trans a8
  have hss : SltsK K I11 (([v1] ++ List.replicate gap.toNat v0) ++ [v9]) (([p1] ++ List.replicate gap.toNat p0) ++ [p1]) :=
    SltsK.app (SltsK.app (.cons (h1.same ((a4.trans a5).trans (g58.trans g811))) .nil) (SltsK.rep (h0.same (g58.trans g811)) _)) (.cons (h9.same (a10.trans a11)) .nil)
  have eSS : ([p1] ++ List.replicate gap.toNat p0) ++ [p1] = p1 :: (List.replicate (n + 1) p0 ++ [p1]) := by
    rw [hn, Int.toNat_natCast]
    rfl
  have S11 := ((((S2.same a3).same a4).same a5).same g58).same g811
  rw [eSS] at hss
  have lens : ∀ s ∈ p1 :: (List.replicate (n + 1) p0 ++ [p1]), s.Len := fun s hs => by
    rcases List.mem_cons.mp hs with e | hs
    · rw [e]; exact lp1
    · rcases List.mem_append.mp hs with hs | hs
      · rw [List.eq_of_mem_replicate hs]; exact lp0
      · rw [List.mem_singleton.mp hs]; exact lp1
  clear a3 a4 a5 a6 a7 a8 a9 a10 a11 g811 g58 e4 e6 e7 e8 e10 h0 h1 h9 eH S2 ep1 ep0 lp1 lp0
  walk_at "rd"
  refine ⟨by show 1 ≤ sizeLine; decide, fun d1 nd1 => ?_⟩
  generalize eH : upd _ _ _ = I12
  obtain ⟨a12, e12⟩ := new_of eH nd1
  walk_at "rd"
  have e12 : I12 d1 = some (.lst [.int (b + 1)]) := by subst eB; exact e12
  refine ⟨_, gap + 1, _, rfl, by subst eG; rfl, e12, by omega, by omega, ?_, fun d2 nd2 => ?_⟩
  · exact Nat.le_of_lt (many_small (by show 1 * _ ≤ _; omega))
  generalize eH : upd _ _ _ = I13
  obtain ⟨a13, e13⟩ := new_of eH nd2
  walk_at "rd"
  refine ⟨by show 1 ≤ sizeLine; decide, fun d3 nd3 => ?_⟩
  generalize eH : upd _ _ _ = I14
  obtain ⟨a14, e14⟩ := new_of eH nd3
  have e14 : I14 d3 = some (.lst [.int (b + 2 + mn gap b)]) := by subst eB; subst eG; exact e14
  rw [rep1] at e13
  refine ⟨_, _, _, _, rfl, rfl, a14 _ _ e13, e14, ?_, fun dl ndl => ?_⟩
  · rw [List.length_map, List.length_replicate]
    exact Nat.le_of_lt (many_small (by show _ + 1 ≤ _; omega))
  generalize eH : upd _ _ _ = I15
  obtain ⟨a15, e15⟩ := new_of eH ndl
  have eL : I15 dl = some (.lst ((List.replicate (n + 1 + 1) (b + 1) ++ [b + 2 + min ((n + 1 : Nat) : Int) b]).map V.int)) := by
    rw [e15, List.map_append, hn, mn_eq]
    rfl
  have g1115 := ((Same.trans a12 a13).trans a14).trans a15
  clear a12 a13 a14 a15 e12 e13 e14 e15 eH
  walk_at "rd"
  refine ⟨z4, b, _, _, by subst eB; rfl, sq_same g1115 e11, hss.same g1115, lens, by rw [List.length_cons, List.length_append, List.length_replicate]; show n + 1 + 1 + 1 ≤ 5000; omega, by omega, by omega, fun I16 lc a16 e16 => ?_⟩
  rw [gap_all (by omega)] at e16
  have shw : Shows (.list (intsD (List.replicate (n + 1 + 1) (b + 1) ++ [b + 2 + min ((n + 1 : Nat) : Int) b]))) := by
    refine shows_ints ?_ fun z hz => ?_
    · rw [List.length_append, List.length_replicate]
      show n + 1 + 1 + 1 ≤ 1000
      omega
    · rcases List.mem_append.mp hz with hz | hz
      · rw [List.eq_of_mem_replicate hz]
        exact nat150 (by omega) (by omega)
      · rw [List.mem_singleton.mp hz]
        exact nat150 (by omega) (by omega)
  refine ⟨_, _, rfl, nul_ints e16, shw, ?_⟩
  generalize eQ : PyData.shown _ = shn3
  walk_at "rd"
  refine ⟨_, _, rfl, nul_ints (a16 _ _ eL), shw, ?_⟩
  rw [eQ]
  clear eQ
  have S := (S11.same g1115).same a16
  refine ⟨rfl, ?_⟩
  walk_at "rd"
  refine ite2 (fun c => absurd c (by simp)) (fun _ => ?_)
  refine st_eq (σ' := [some (.ref a), some (.ref p), _, _, _, _, _, _, _, _, _, _, _, _]) rfl ?_
  clear g1115 a16 e16 eL shw e11 hss lens eSS S11 hn gg
  walk_at "rd"
  refine ⟨p, c, _, rfl, S, by decide, fun J1 u S1 o1 u0 u1 => ?_⟩
  walk_at "rd"
  refine ⟨p, c, _, rfl, S1, by decide, fun J2 price S2 o2 t0 t1 => ?_⟩
  obtain ⟨many, eM⟩ : ∃ z : Int, z = 1 + u := ⟨_, rfl⟩
  have mm : 1 ≤ many ∧ many ≤ 150 := by omega
  have pp : 0 ≤ price ∧ price ≤ 8 := by omega
  obtain ⟨n, hn⟩ : ∃ n : Nat, many = ((n + 1 : Nat) : Int) := ⟨(many - 1).toNat, by omega⟩
  have ep : plainW 3 7 price = p4 price := rfl
  have lp : (p4 price).Len := ⟨rfl, by show (3 : Int) ≤ 7; decide, by show (7 : Int) - 3 ≤ 1000; decide⟩
  clear o1 o2 S S1 S2
  walk_at "rd"
  refine ⟨3, 7, price, rfl, by decide, by decide, by omega, by omega, fun J3 v a3 h => ?_⟩
  rw [ep] at h
  walk_at "rd"
  refine ⟨by show 1 ≤ sizeLine; decide, fun y ny => ?_⟩
  generalize eH : upd _ _ _ = J4
  obtain ⟨a4, e4⟩ := new_of eH ny
  walk_at "rd"
  refine repV (k := many) (by subst eM; rfl) (sq_of e4) (by omega) (by omega) fun z J5 a5 e5 => ?_
  have hss := SltsK.rep (h.same (a4.trans a5)) many.toNat
  have eN : many.toNat = n + 1 := by rw [hn, Int.toNat_natCast]
  rw [eN] at hss e5
  walk_at "rd"
  refine ⟨z, b, _, _, by subst eB; rfl, e5, hss, fun s hs => by rw [List.eq_of_mem_replicate hs]; exact lp, by rw [List.length_replicate]; omega, by omega, by omega, fun J6 a6 => ?_⟩
  rw [many_all (by omega) pp.1, ← hn]
  have pm : 0 ≤ price * many ∧ price * many ≤ 8 * 150 := ⟨Int.mul_nonneg pp.1 (by omega), Int.mul_le_mul pp.2 mm.2 (by omega) (by omega)⟩
  have pb : (3 * b + 3 * price * many).natAbs.log2 < 1920 := by
    refine lil_int (nat150 ?_ ?_)
    · rw [Int.mul_assoc]
      omega
    · rw [Int.mul_assoc]
      omega
  walk_at "rd"
  refine ⟨pb, ?_⟩
  walk_at "rd"
  refine ⟨mull ⟨by decide, by decide⟩, ?_⟩
  walk_at "rd"
  refine ⟨mull ⟨by decide, by decide⟩, ?_⟩
  walk_at "rd"
  refine ⟨mulr ⟨by omega, by omega⟩, ?_⟩
  walk_at "rd"
  refine ⟨by subst eB; subst eM; exact pb, ?_⟩
  refine ⟨rfl, ?_⟩
  have e : decide (V.str (Str.ofString (toString (3 * b + 3 * price * many))) = V.str (Str.ofString (toString (3 * (1 + r2) + 3 * price * (1 + u))))) = true := by
    rw [← eB, ← eM]
    simp
  show Q (.bl (decide (V.str (Str.ofString (toString (3 * b + 3 * price * many))) = V.str (Str.ofString (toString (3 * (1 + r2) + 3 * price * (1 + u))))))) _
  rw [e]
  exact q _
end
end K16
set_option Elab.async false
set_option linter.all false
set_option maxRecDepth 100000
namespace K16
open PySem PySem.Spec PyProof.Rows L2 WK
theorem all_mk {l : PySem.W.OpenLaw} {w : World} {K : PySem.W.Frag} {h : Heap} {mg : Str → Option Value} {fa fCo fWo fWi fSu fLo fHi fLe fBo fHw fHs fHe fAf fWs fLc fLt fPl fRq fSl fS fP fLw : Addr} (X : K.In h) (G : h.Ns mainGlobals mg) (hfa : mg "law" = some (.ref fa))
    {odCo anCo odWo anWo odWi anWi odSu anSu odLo anLo odHi anHi odLe anLe odBo anBo odHw anHw odHs anHs odHe anHe odAf anAf odWs anWs odLc anLc odLt anLt odPl anPl odRq anRq odSl anSl odS anS odP anP odLw anLw : Option Addr} {slCo slWo slWi slSu slLo slHi slLe slBo slHw slHs slHe slAf slWs slLc slLt slPl slRq slSl slS slP slLw : Array (Option Value)} {ocCo kVCo dcCo pmCo cdCo ctCo ocWo kVWo dcWo pmWo cdWo ctWo ocWi kVWi dcWi pmWi cdWi ctWi ocSu kVSu dcSu pmSu cdSu ctSu ocLo kVLo dcLo pmLo cdLo ctLo ocHi kVHi dcHi pmHi cdHi ctHi ocLe kVLe dcLe pmLe cdLe ctLe ocBo kVBo dcBo pmBo cdBo ctBo ocHw kVHw dcHw pmHw cdHw ctHw ocHs kVHs dcHs pmHs cdHs ctHs ocHe kVHe dcHe pmHe cdHe ctHe ocAf kVAf dcAf pmAf cdAf ctAf ocWs kVWs dcWs pmWs cdWs ctWs ocLc kVLc dcLc pmLc cdLc ctLc ocLt kVLt dcLt pmLt cdLt ctLt ocPl kVPl dcPl pmPl cdPl ctPl ocRq kVRq dcRq pmRq cdRq ctRq ocSl kVSl dcSl pmSl cdSl ctSl ocS kVS dcS pmS cdS ctS ocP kVP dcP pmP cdP ctP ocLw kVLw dcLw pmLw cdLw ctLw : Value}
    (aCo : PySem.W.nsIn K mainGlobals "slot_cost" = some (some (.ref fCo))) (lCo : K.lookup fCo = some ⟨ocCo, odCo, .func (PySem.W.fnOf "slot_cost" "slot_cost" (defArgs sCo) (defBody sCo) (defScope sCo) .none kVCo dcCo pmCo anCo cdCo ctCo), slCo⟩)
      (cCo : PySem.W.codeIn K cdCo "slot_cost" = true) (kCo : PySem.W.keepIn K (.ref fCo) = true)
    (aWo : PySem.W.nsIn K mainGlobals "worth_at" = some (some (.ref fWo))) (lWo : K.lookup fWo = some ⟨ocWo, odWo, .func (PySem.W.fnOf "worth_at" "worth_at" (defArgs sWo) (defBody sWo) (defScope sWo) .none kVWo dcWo pmWo anWo cdWo ctWo), slWo⟩)
      (cWo : PySem.W.codeIn K cdWo "worth_at" = true) (kWo : PySem.W.keepIn K (.ref fWo) = true)
    (aWi : PySem.W.nsIn K mainGlobals "slopes_within" = some (some (.ref fWi))) (lWi : K.lookup fWi = some ⟨ocWi, odWi, .func (PySem.W.fnOf "slopes_within" "slopes_within" (defArgs sWi) (defBody sWi) (defScope sWi) .none kVWi dcWi pmWi anWi cdWi ctWi), slWi⟩)
      (cWi : PySem.W.codeIn K cdWi "slopes_within" = true) (kWi : PySem.W.keepIn K (.ref fWi) = true)
    (aSu : PySem.W.nsIn K mainGlobals "sum_of" = some (some (.ref fSu))) (lSu : K.lookup fSu = some ⟨ocSu, odSu, .func (PySem.W.fnOf "sum_of" "sum_of" (defArgs sSu) (defBody sSu) (defScope sSu) .none kVSu dcSu pmSu anSu cdSu ctSu), slSu⟩)
      (cSu : PySem.W.codeIn K cdSu "sum_of" = true) (kSu : PySem.W.keepIn K (.ref fSu) = true)
    (aLo : PySem.W.nsIn K mainGlobals "low_of" = some (some (.ref fLo))) (lLo : K.lookup fLo = some ⟨ocLo, odLo, .func (PySem.W.fnOf "low_of" "low_of" (defArgs sLo) (defBody sLo) (defScope sLo) .none kVLo dcLo pmLo anLo cdLo ctLo), slLo⟩)
      (cLo : PySem.W.codeIn K cdLo "low_of" = true) (kLo : PySem.W.keepIn K (.ref fLo) = true)
    (aHi : PySem.W.nsIn K mainGlobals "high_of" = some (some (.ref fHi))) (lHi : K.lookup fHi = some ⟨ocHi, odHi, .func (PySem.W.fnOf "high_of" "high_of" (defArgs sHi) (defBody sHi) (defScope sHi) .none kVHi dcHi pmHi anHi cdHi ctHi), slHi⟩)
      (cHi : PySem.W.codeIn K cdHi "high_of" = true) (kHi : PySem.W.keepIn K (.ref fHi) = true)
    (aLe : PySem.W.nsIn K mainGlobals "least_worth" = some (some (.ref fLe))) (lLe : K.lookup fLe = some ⟨ocLe, odLe, .func (PySem.W.fnOf "least_worth" "least_worth" (defArgs sLe) (defBody sLe) (defScope sLe) .none kVLe dcLe pmLe anLe cdLe ctLe), slLe⟩)
      (cLe : PySem.W.codeIn K cdLe "least_worth" = true) (kLe : PySem.W.keepIn K (.ref fLe) = true)
    (aBo : PySem.W.nsIn K mainGlobals "bounded" = some (some (.ref fBo))) (lBo : K.lookup fBo = some ⟨ocBo, odBo, .func (PySem.W.fnOf "bounded" "bounded" (defArgs sBo) (defBody sBo) (defScope sBo) .none kVBo dcBo pmBo anBo cdBo ctBo), slBo⟩)
      (cBo : PySem.W.codeIn K cdBo "bounded" = true) (kBo : PySem.W.keepIn K (.ref fBo) = true)
    (aHw : PySem.W.nsIn K mainGlobals "held_worth" = some (some (.ref fHw))) (lHw : K.lookup fHw = some ⟨ocHw, odHw, .func (PySem.W.fnOf "held_worth" "held_worth" (defArgs sHw) (defBody sHw) (defScope sHw) .none kVHw dcHw pmHw anHw cdHw ctHw), slHw⟩)
      (cHw : PySem.W.codeIn K cdHw "held_worth" = true) (kHw : PySem.W.keepIn K (.ref fHw) = true)
    (aHs : PySem.W.nsIn K mainGlobals "held_slopes" = some (some (.ref fHs))) (lHs : K.lookup fHs = some ⟨ocHs, odHs, .func (PySem.W.fnOf "held_slopes" "held_slopes" (defArgs sHs) (defBody sHs) (defScope sHs) .none kVHs dcHs pmHs anHs cdHs ctHs), slHs⟩)
      (cHs : PySem.W.codeIn K cdHs "held_slopes" = true) (kHs : PySem.W.keepIn K (.ref fHs) = true)
    (aHe : PySem.W.nsIn K mainGlobals "held" = some (some (.ref fHe))) (lHe : K.lookup fHe = some ⟨ocHe, odHe, .func (PySem.W.fnOf "held" "held" (defArgs sHe) (defBody sHe) (defScope sHe) .none kVHe dcHe pmHe anHe cdHe ctHe), slHe⟩)
      (cHe : PySem.W.codeIn K cdHe "held" = true) (kHe : PySem.W.keepIn K (.ref fHe) = true)
    (aAf : PySem.W.nsIn K mainGlobals "work_after" = some (some (.ref fAf))) (lAf : K.lookup fAf = some ⟨ocAf, odAf, .func (PySem.W.fnOf "work_after" "work_after" (defArgs sAf) (defBody sAf) (defScope sAf) .none kVAf dcAf pmAf anAf cdAf ctAf), slAf⟩)
      (cAf : PySem.W.codeIn K cdAf "work_after" = true) (kAf : PySem.W.keepIn K (.ref fAf) = true)
    (aWs : PySem.W.nsIn K mainGlobals "works_of" = some (some (.ref fWs))) (lWs : K.lookup fWs = some ⟨ocWs, odWs, .func (PySem.W.fnOf "works_of" "works_of" (defArgs sWs) (defBody sWs) (defScope sWs) .none kVWs dcWs pmWs anWs cdWs ctWs), slWs⟩)
      (cWs : PySem.W.codeIn K cdWs "works_of" = true) (kWs : PySem.W.keepIn K (.ref fWs) = true)
    (aLc : PySem.W.nsIn K mainGlobals "least_costs" = some (some (.ref fLc))) (lLc : K.lookup fLc = some ⟨ocLc, odLc, .func (PySem.W.fnOf "least_costs" "least_costs" (defArgs sLc) (defBody sLc) (defScope sLc) .none kVLc dcLc pmLc anLc cdLc ctLc), slLc⟩)
      (cLc : PySem.W.codeIn K cdLc "least_costs" = true) (kLc : PySem.W.keepIn K (.ref fLc) = true)
    (aLt : PySem.W.nsIn K mainGlobals "least_cost" = some (some (.ref fLt))) (lLt : K.lookup fLt = some ⟨ocLt, odLt, .func (PySem.W.fnOf "least_cost" "least_cost" (defArgs sLt) (defBody sLt) (defScope sLt) .none kVLt dcLt pmLt anLt cdLt ctLt), slLt⟩)
      (cLt : PySem.W.codeIn K cdLt "least_cost" = true) (kLt : PySem.W.keepIn K (.ref fLt) = true)
    (aPl : PySem.W.nsIn K mainGlobals "plain_slot" = some (some (.ref fPl))) (lPl : K.lookup fPl = some ⟨ocPl, odPl, .func (PySem.W.fnOf "plain_slot" "plain_slot" (defArgs sPl) (defBody sPl) (defScope sPl) .none kVPl dcPl pmPl anPl cdPl ctPl), slPl⟩)
      (cPl : PySem.W.codeIn K cdPl "plain_slot" = true) (kPl : PySem.W.keepIn K (.ref fPl) = true)
    (aRq : PySem.W.nsIn K mainGlobals "require" = some (some (.ref fRq))) (lRq : K.lookup fRq = some ⟨ocRq, odRq, .func (PySem.W.fnOf "require" "require" (defArgs sRq) (defBody sRq) (defScope sRq) .none kVRq dcRq pmRq anRq cdRq ctRq), slRq⟩)
      (cRq : PySem.W.codeIn K cdRq "require" = true) (kRq : PySem.W.keepIn K (.ref fRq) = true)
    (aSl : PySem.W.nsIn K mainGlobals "slot_of" = some (some (.ref fSl))) (lSl : K.lookup fSl = some ⟨ocSl, odSl, .func (PySem.W.fnOf "slot_of" "slot_of" (defArgs sSl) (defBody sSl) (defScope sSl) .none kVSl dcSl pmSl anSl cdSl ctSl), slSl⟩)
      (cSl : PySem.W.codeIn K cdSl "slot_of" = true) (kSl : PySem.W.keepIn K (.ref fSl) = true)
    (aS : PySem.W.nsIn K mainGlobals "_law_source" = some (some (.ref fS))) (lS : K.lookup fS = some ⟨ocS, odS, .func (PySem.W.fnOf "_law_source" "_law_source" (defArgs sSource) (defBody sSource) (defScope sSource) .none kVS dcS pmS anS cdS ctS), slS⟩)
      (cS : PySem.W.codeIn K cdS "_law_source" = true) (kS : PySem.W.keepIn K (.ref fS) = true)
    (aP : PySem.W.nsIn K mainGlobals "_law_pick" = some (some (.ref fP))) (lP : K.lookup fP = some ⟨ocP, odP, .func (PySem.W.fnOf "_law_pick" "_law_pick" (defArgs sPick) (defBody sPick) (defScope sPick) .none kVP dcP pmP anP cdP ctP), slP⟩)
      (cP : PySem.W.codeIn K cdP "_law_pick" = true) (kP : PySem.W.keepIn K (.ref fP) = true)
    (aLw : PySem.W.nsIn K mainGlobals "law" = some (some (.ref fLw))) (lLw : K.lookup fLw = some ⟨ocLw, odLw, .func (PySem.W.fnOf "law" "law" (defArgs sLaw) (defBody sLaw) (defScope sLaw) .none kVLw dcLw pmLw anLw cdLw ctLw), slLw⟩)
      (cLw : PySem.W.codeIn K cdLw "law" = true) (kLw : PySem.W.keepIn K (.ref fLw) = true)
    (zint : PySem.W.nsIn K mainGlobals "int" = some none)
    (zabs : PySem.W.nsIn K mainGlobals "abs" = some none)
    (zlen : PySem.W.nsIn K mainGlobals "len" = some none)
    (zmax : PySem.W.nsIn K mainGlobals "max" = some none)
    (zmin : PySem.W.nsIn K mainGlobals "min" = some none)
    (ztuple : PySem.W.nsIn K mainGlobals "tuple" = some none)
    (zrange : PySem.W.nsIn K mainGlobals "range" = some none)
    (zzip : PySem.W.nsIn K mainGlobals "zip" = some none)
    (zenumerate : PySem.W.nsIn K mainGlobals "enumerate" = some none)
    (zrepr : PySem.W.nsIn K mainGlobals "repr" = some none)
    (zsum : PySem.W.nsIn K mainGlobals "sum" = some none)
    (zall : PySem.W.nsIn K mainGlobals "all" = some none)
    (zany : PySem.W.nsIn K mainGlobals "any" = some none)
    (zsorted : PySem.W.nsIn K mainGlobals "sorted" = some none)
    (zlist : PySem.W.nsIn K mainGlobals "list" = some none)
    {aNOTHING aE : Addr} {odN odE : Option Addr} {nn ne : Nat} {slN slE : Array (Option Value)} {tk1 tk2 tk3 : Tok}
    (aN : PySem.W.nsIn K mainGlobals "NOTHING" = some (some (.ref aNOTHING))) (lN : K.lookup aNOTHING = some ⟨.type "tuple", odN, .seq #[.int 0 tk1, .int 0 tk2, .int 0 tk3, .ref aE] nn, slN⟩)
    (lE : K.lookup aE = some ⟨.type "tuple", odE, .seq #[] ne, slE⟩)
    : ∃ fd : FuncData, (∀ (s : Shared) (v : Value), BindsTo s fd ⟨[v], []⟩ [("script", v)]) ∧ ∀ base : Heap, K.In base → base.Ns mainGlobals mg → FnG l.prog w K mg base 10 fa fd ["script"] (spLaw K) := by
  have vN : Vals [.int 0, .int 0, .int 0, .ref aE] [.int 0 tk1, .int 0 tk2, .int 0 tk3, .ref aE] := .cons ⟨_, rfl⟩ (.cons ⟨_, rfl⟩ (.cons ⟨_, rfl⟩ (.cons rfl .nil)))
  have e := hfa.symm.trans (PySem.W.mg_of X G aLw)
  cases e
  have FCo := fun_mk (st := sCo) lCo cCo kCo
  have FWo := fun_mk (st := sWo) lWo cWo kWo
  have FWi := fun_mk (st := sWi) lWi cWi kWi
  have FSu := fun_mk (st := sSu) lSu cSu kSu
  have FLo := fun_mk (st := sLo) lLo cLo kLo
  have FHi := fun_mk (st := sHi) lHi cHi kHi
  have FLe := fun_mk (st := sLe) lLe cLe kLe
  have FBo := fun_mk (st := sBo) lBo cBo kBo
  have FHw := fun_mk (st := sHw) lHw cHw kHw
  have FHs := fun_mk (st := sHs) lHs cHs kHs
  have FHe := fun_mk (st := sHe) lHe cHe kHe
  have FAf := fun_mk (st := sAf) lAf cAf kAf
  have FWs := fun_mk (st := sWs) lWs cWs kWs
  have FLc := fun_mk (st := sLc) lLc cLc kLc
  have FLt := fun_mk (st := sLt) lLt cLt kLt
  have FPl := fun_mk (st := sPl) lPl cPl kPl
  have FRq := fun_mk (st := sRq) lRq cRq kRq
  have FSl := fun_mk (st := sSl) lSl cSl kSl
  have FS := fun_mk (st := sSource) lS cS kS
  have FP := fun_mk (st := sPick) lP cP kP
  have FLw := fun_mk (st := sLaw) lLw cLw kLw
  have bCo := FCo.binds (ps := ["slot", "x"]) fun _ _ _ _ _ _ us hl => match us, hl with | [_, _], _ => rfl
  have gCo := PySem.W.mg_of X G aCo
  have bWo := FWo.binds (ps := ["work", "x"]) fun _ _ _ _ _ _ us hl => match us, hl with | [_, _], _ => rfl
  have gWo := PySem.W.mg_of X G aWo
  have bWi := FWi.binds (ps := ["work", "low", "high"]) fun _ _ _ _ _ _ us hl => match us, hl with | [_, _, _], _ => rfl
  have gWi := PySem.W.mg_of X G aWi
  have bSu := FSu.binds (ps := ["one", "other"]) fun _ _ _ _ _ _ us hl => match us, hl with | [_, _], _ => rfl
  have gSu := PySem.W.mg_of X G aSu
  have bLo := FLo.binds (ps := ["work"]) fun _ _ _ _ _ _ us hl => match us, hl with | [_], _ => rfl
  have gLo := PySem.W.mg_of X G aLo
  have bHi := FHi.binds (ps := ["work", "b"]) fun _ _ _ _ _ _ us hl => match us, hl with | [_, _], _ => rfl
  have gHi := PySem.W.mg_of X G aHi
  have bLe := FLe.binds (ps := ["work"]) fun _ _ _ _ _ _ us hl => match us, hl with | [_], _ => rfl
  have gLe := PySem.W.mg_of X G aLe
  have bBo := FBo.binds (ps := ["slopes", "b"]) fun _ _ _ _ _ _ us hl => match us, hl with | [_, _], _ => rfl
  have gBo := PySem.W.mg_of X G aBo
  have bHw := FHw.binds (ps := ["work", "b", "x"]) fun _ _ _ _ _ _ us hl => match us, hl with | [_, _, _], _ => rfl
  have gHw := PySem.W.mg_of X G aHw
  have bHs := FHs.binds (ps := ["work", "b", "low", "high"]) fun _ _ _ _ _ _ us hl => match us, hl with | [_, _, _, _], _ => rfl
  have gHs := PySem.W.mg_of X G aHs
  have bHe := FHe.binds (ps := ["work", "b", "low", "high"]) fun _ _ _ _ _ _ us hl => match us, hl with | [_, _, _, _], _ => rfl
  have gHe := PySem.W.mg_of X G aHe
  have bAf := FAf.binds (ps := ["work", "slot", "b"]) fun _ _ _ _ _ _ us hl => match us, hl with | [_, _, _], _ => rfl
  have gAf := PySem.W.mg_of X G aAf
  have bWs := FWs.binds (ps := ["slots", "b"]) fun _ _ _ _ _ _ us hl => match us, hl with | [_, _], _ => rfl
  have gWs := PySem.W.mg_of X G aWs
  have bLc := FLc.binds (ps := ["slots", "b"]) fun _ _ _ _ _ _ us hl => match us, hl with | [_, _], _ => rfl
  have gLc := PySem.W.mg_of X G aLc
  have bLt := FLt.binds (ps := ["slots", "b"]) fun _ _ _ _ _ _ us hl => match us, hl with | [_, _], _ => rfl
  have gLt := PySem.W.mg_of X G aLt
  have bPl := FPl.binds (ps := ["need", "most", "price"]) fun _ _ _ _ _ _ us hl => match us, hl with | [_, _, _], _ => rfl
  have gPl := PySem.W.mg_of X G aPl
  have bRq := FRq.binds (ps := ["holds", "path"]) fun _ _ _ _ _ _ us hl => match us, hl with | [_, _], _ => rfl
  have gRq := PySem.W.mg_of X G aRq
  have bSl := FSl.binds (ps := ["need", "costs"]) fun _ _ _ _ _ _ us hl => match us, hl with | [_, _], _ => rfl
  have gSl := PySem.W.mg_of X G aSl
  have bS := FS.binds (ps := ["script"]) fun _ _ _ _ _ _ us hl => match us, hl with | [_], _ => rfl
  have gS := PySem.W.mg_of X G aS
  have bP := FP.binds (ps := ["source", "many"]) fun _ _ _ _ _ _ us hl => match us, hl with | [_, _], _ => rfl
  have gP := PySem.W.mg_of X G aP
  have B : Blt mg := { int := PySem.W.mg_none_of X G zint, abs := PySem.W.mg_none_of X G zabs, len := PySem.W.mg_none_of X G zlen, max := PySem.W.mg_none_of X G zmax, min := PySem.W.mg_none_of X G zmin, tuple := PySem.W.mg_none_of X G ztuple, range := PySem.W.mg_none_of X G zrange, zip := PySem.W.mg_none_of X G zzip, enumerate := PySem.W.mg_none_of X G zenumerate, repr := PySem.W.mg_none_of X G zrepr, sum := PySem.W.mg_none_of X G zsum, all := PySem.W.mg_none_of X G zall, any := PySem.W.mg_none_of X G zany, sorted := PySem.W.mg_none_of X G zsorted, list := PySem.W.mg_none_of X G zlist }
  have D : Txt K mg fCo fWo fWi fSu fLo fHi fLe fBo fHw fHs fHe fAf fWs fLc fLt fPl aNOTHING aE fRq fSl fS fP _ _ _ _ _ _ _ _ _ _ _ _ _ _ _ _ _ _ _ _ := { FCo := FCo, bCo := bCo, gCo := gCo, FWo := FWo, bWo := bWo, gWo := gWo, FWi := FWi, bWi := bWi, gWi := gWi, FSu := FSu, bSu := bSu, gSu := gSu, FLo := FLo, bLo := bLo, gLo := gLo, FHi := FHi, bHi := bHi, gHi := gHi, FLe := FLe, bLe := bLe, gLe := gLe, FBo := FBo, bBo := bBo, gBo := gBo, FHw := FHw, bHw := bHw, gHw := gHw, FHs := FHs, bHs := bHs, gHs := gHs, FHe := FHe, bHe := bHe, gHe := gHe, FAf := FAf, bAf := bAf, gAf := gAf, FWs := FWs, bWs := bWs, gWs := gWs, FLc := FLc, bLc := bLc, gLc := gLc, FLt := FLt, bLt := bLt, gLt := gLt, FPl := FPl, bPl := bPl, gPl := gPl, FRq := FRq, bRq := bRq, gRq := gRq, FSl := FSl, bSl := bSl, gSl := gSl, FS := FS, bS := bS, gS := gS, FP := FP, bP := bP, gP := gP, gNOTHING := PySem.W.mg_of X G aN, nN := fun H => .inr ⟨_, _, _, lN, rfl, rfl, by show 4 ≤ sizeLine; decide, vN⟩, nE := fun H => .inr ⟨_, _, _, lE, rfl, rfl, by show 0 ≤ sizeLine; decide, .nil⟩ }
  exact ⟨PySem.W.fnOf "law" "law" (defArgs sLaw) (defBody sLaw) (defScope sLaw) .none kVLw dcLw pmLw anLw cdLw ctLw, fun s v => .of_eq rfl, fun base _ _ => ok_law FLw D B⟩
end K16
open PySem PySem.W PyProof.Rows
set_option maxRecDepth 100000 in
set_option maxHeartbeats 0 in
theorem PySem.Challenge.cw_wakedenough_k16_works_by_hand_holds : PySem.Challenge.rw_wakedenough_k16_works_by_hand.Holds := by
  w_on; o_law; k_head; (case hw => w_witness2)
  k_fill
  refine WK.walk_ofG (l := PySem.Challenge.rw_wakedenough_k16_works_by_hand) (n := 63) (k := 10) (x := "script") (sp := fun w => K16.spLaw _) rfl (by decide) rfl ⟨rfl, by decide, by decide⟩ (fun w h Y => PySem.W.kIn_of Y) ?F (fun _ _ a ns hl _ hS => ⟨a, ns, rfl, hS, hl, fun _ => rfl⟩)
  case F =>
    intro w mg fa h KX G hmg
    refine' K16.all_mk KX G hmg ?aCo ?lCo ?cCo ?kCo ?aWo ?lWo ?cWo ?kWo ?aWi ?lWi ?cWi ?kWi ?aSu ?lSu ?cSu ?kSu ?aLo ?lLo ?cLo ?kLo ?aHi ?lHi ?cHi ?kHi ?aLe ?lLe ?cLe ?kLe ?aBo ?lBo ?cBo ?kBo ?aHw ?lHw ?cHw ?kHw ?aHs ?lHs ?cHs ?kHs ?aHe ?lHe ?cHe ?kHe ?aAf ?lAf ?cAf ?kAf ?aWs ?lWs ?cWs ?kWs ?aLc ?lLc ?cLc ?kLc ?aLt ?lLt ?cLt ?kLt ?aPl ?lPl ?cPl ?kPl ?aRq ?lRq ?cRq ?kRq ?aSl ?lSl ?cSl ?kSl ?aS ?lS ?cS ?kS ?aP ?lP ?cP ?kP ?aLw ?lLw ?cLw ?kLw ?zint ?zabs ?zlen ?zmax ?zmin ?ztuple ?zrange ?zzip ?zenumerate ?zrepr ?zsum ?zall ?zany ?zsorted ?zlist ?aN ?lN ?lE
    (case aCo => k_is); (case lCo => k_is); (case cCo => k_is); (case kCo => k_is); (case aWo => k_is); (case lWo => k_is); (case cWo => k_is); (case kWo => k_is); (case aWi => k_is); (case lWi => k_is); (case cWi => k_is); (case kWi => k_is); (case aSu => k_is); (case lSu => k_is); (case cSu => k_is); (case kSu => k_is); (case aLo => k_is); (case lLo => k_is); (case cLo => k_is); (case kLo => k_is); (case aHi => k_is); (case lHi => k_is); (case cHi => k_is); (case kHi => k_is); (case aLe => k_is); (case lLe => k_is); (case cLe => k_is); (case kLe => k_is); (case aBo => k_is); (case lBo => k_is); (case cBo => k_is); (case kBo => k_is); (case aHw => k_is); (case lHw => k_is); (case cHw => k_is); (case kHw => k_is); (case aHs => k_is); (case lHs => k_is); (case cHs => k_is); (case kHs => k_is); (case aHe => k_is); (case lHe => k_is); (case cHe => k_is); (case kHe => k_is); (case aAf => k_is); (case lAf => k_is); (case cAf => k_is); (case kAf => k_is); (case aWs => k_is); (case lWs => k_is); (case cWs => k_is); (case kWs => k_is); (case aLc => k_is); (case lLc => k_is); (case cLc => k_is); (case kLc => k_is); (case aLt => k_is); (case lLt => k_is); (case cLt => k_is); (case kLt => k_is); (case aPl => k_is); (case lPl => k_is); (case cPl => k_is); (case kPl => k_is); (case aRq => k_is); (case lRq => k_is); (case cRq => k_is); (case kRq => k_is); (case aSl => k_is); (case lSl => k_is); (case cSl => k_is); (case kSl => k_is); (case aS => k_is); (case lS => k_is); (case cS => k_is); (case kS => k_is); (case aP => k_is); (case lP => k_is); (case cP => k_is); (case kP => k_is); (case aLw => k_is); (case lLw => k_is); (case cLw => k_is); (case kLw => k_is); (case zint => k_is); (case zabs => k_is); (case zlen => k_is); (case zmax => k_is); (case zmin => k_is); (case ztuple => k_is); (case zrange => k_is); (case zzip => k_is); (case zenumerate => k_is); (case zrepr => k_is); (case zsum => k_is); (case zall => k_is); (case zany => k_is); (case zsorted => k_is); (case zlist => k_is); (case aN => k_is); (case lN => k_is); (case lE => k_is)
