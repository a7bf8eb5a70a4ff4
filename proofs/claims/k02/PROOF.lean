import PyProof.Rows.All
import Wide.All
import OpenK.AllK
import Wide.FinOn
import HandS.ForMost
import HandS.Evl
import HandS.IsInst
import HandS.TupLe
import HandS.Conv
import HandS.SetFor
import HandS.Zip
import HandS.Defaults
import KE.KEqSeq
import PyProof.ReprRoads
import PySem.Challenge.RW_threelanes_k02_integers_and_lots
set_option Elab.async false
set_option linter.all false
set_option maxRecDepth 100000
section S_Ka
namespace Tl
open PySem PySem.Spec PyProof.Rows L2
/-! ### len(set(x)) of a list or a tuple of ints, unlike or not -/
theorem met_len (ns : List Int) : ∀ i, i ≤ ns.length → ((firstMet (fun i => ns.getD i 0) i).length = i ↔ (ns.take i).Nodup) ∧ ∀ k, k ∈ firstMet (fun i => ns.getD i 0) i ↔ k ∈ ns.take i
  | 0, _ => by
    rw [firstMet_zero]
    simp
  | i + 1, h => by
    have hi : i < ns.length := h
    obtain ⟨a1, a2⟩ := met_len ns i (Nat.le_of_lt hi)
    have ex : ns.getD i 0 = ns[i] := by simp [List.getD_eq_getElem?_getD, hi]
    have et : ns.take (i + 1) = ns.take i ++ [ns[i]] := by rw [List.take_add_one, List.getElem?_eq_getElem hi] <;> rfl
    have eb : (firstMet (fun i => ns.getD i 0) i).any (· == ns[i]) = true ↔ ns[i] ∈ ns.take i := by
      rw [List.any_eq_true]
      constructor
      · intro ⟨x, hx, he⟩
        rw [← beq_iff_eq.mp he]
        exact (a2 x).mp hx
      · intro hx
        exact ⟨_, (a2 _).mpr hx, beq_self_eq_true _⟩
    have le := firstMet_length_le (fun i => ns.getD i 0) i
    rw [firstMet_succ, et]
    show ((step_dedup _ (ns.getD i 0)).length = i + 1 ↔ _) ∧ _
    rw [ex]
    unfold step_dedup
    have nd : (ns.take i ++ [ns[i]]).Nodup ↔ (ns.take i).Nodup ∧ ns[i] ∉ ns.take i := by
      rw [List.nodup_append]
      simp
      exact fun _ => ⟨fun y z => y _ z rfl, fun y a ha e => y (e ▸ ha)⟩
    by_cases hm : ns[i] ∈ ns.take i
    · rw [if_pos (eb.mpr hm)]
      refine ⟨⟨fun e => by omega, fun e => absurd hm (nd.mp e).2⟩, fun k => ?_⟩
      rw [a2 k, List.mem_append, List.mem_singleton]
      exact ⟨.inl, fun z => z.elim id fun e => e ▸ hm⟩
    · rw [if_neg (fun z => hm (eb.mp z))]
      refine ⟨?_, fun k => ?_⟩
      · rw [List.length_append, List.length_singleton, nd]
        exact ⟨fun e => ⟨a1.mp (by omega), hm⟩, fun e => by rw [a1.mpr e.1]⟩
      · rw [List.mem_append, List.mem_append, a2 k]
def tLenSetN (K : PySem.W.Frag) (ta : TE) : TE := fun σ H Q => ta σ H fun x H1 => ∃ (l : Addr) (ns : List Int), x = .ref l ∧ SqL K H1 l (ns.map V.int) ∧ ns.length ≤ 4000 ∧ ∀ c : Nat, (c = ns.length ↔ ns.Nodup) → Q (.int (c : Int)) H1
theorem pe_lenSetN {X : Cx} {a : Expr} {ta : TE} {p p2 q pos : Pos} (hg : Gl X "len") (hm : X.mg "len" = none) (hg2 : Gl X "set") (hm2 : X.mg "set" = none) (ha : PE X a ta) (hc : X.calm = true := by rfl)
    (na : starEach [a] X.env = (false, eval a X.env) :: starEach [] X.env := by rfl) : PE X (.Call (.Name "len" p) [.Call (.Name "set" p2) [a] [] q] [] pos) (tLenSetN X.K ta) := by
  constructor
  intro pins s σ H Q I h
  refine Call_ (ld_blt I hg hm boot_len (callWith_builtin1 (args_cons (Call_ (ld_blt I hg2 hm2 boot_set (callWith_type1 (args_cons (thn (ha.run pins s σ H _ I h) fun v s1 hv => args_nil ?_) na) na rfl))) rfl) rfl rfl))
  obtain ⟨x, H1, I1, r1, l, ns, rfl, hq, hl, q1⟩ := hv
  cases r1
  obtain ⟨its, r, pl, hz⟩ := I1.list hq
  have hn : its.toArray.size = ns.length := by rw [List.size_toArray, ← r.length, List.length_map]
  refine call_set_list (I1.ok.hd hc) pl.isList (by simpa using RZ.intsAre_vals r) (by rw [hn]; unfold scanBound; omega) fun h' tk hS hk => args_nil ?_
  obtain ⟨o, es, ep, t, ho, hex, hd, _, _, hb, hf, hsz⟩ := hS
  have I2 : Inv X pins σ H1 { s1 with heap := h', toks := tk } := I1.kept fun b o e => hk b o (Heap.lt_size e) e
  refine call_len_set ho hex hd hf (by unfold scanBound at hb; omega) ⟨.int es.size, H1, I2.tok _, ⟨_, rfl⟩, q1 es.size ?_⟩
  rw [hsz, hn]
  have e := (met_len ns ns.length (Nat.le_refl _)).1
  rwa [List.take_length] at e
/-- the same of a tuple -/
def tLenSetU (K : PySem.W.Frag) (ta : TE) : TE := fun σ H Q => ta σ H fun x H1 => ∃ (l : Addr) (ns : List Int), x = .ref l ∧ SqT K H1 l (ns.map V.int) ∧ ns.length ≤ 4000 ∧ ∀ c : Nat, (c = ns.length ↔ ns.Nodup) → Q (.int (c : Int)) H1
theorem nodup_same {as bs : List Int} (ha : as.Nodup) (hm : ∀ k, k ∈ bs ↔ k ∈ as) : as.length = bs.length ↔ bs.Nodup := by
  have sub : ∀ (as bs : List Int), as.Nodup → (∀ k, k ∈ as → k ∈ bs) → as.length ≤ bs.length := by
    intro as
    induction as with
    | nil => intro bs _ _; exact Nat.zero_le _
    | cons a r ih =>
      intro bs hn hs
      rw [List.nodup_cons] at hn
      have h1 : a ∈ bs := hs a List.mem_cons_self
      have h2 := ih (bs.erase a) hn.2 fun k hk => by
        have hne : k ≠ a := fun e => hn.1 (e ▸ hk)
        exact (List.mem_erase_of_ne hne).mpr (hs k (List.mem_cons_of_mem _ hk))
      rw [List.length_erase_of_mem h1] at h2
      have h3 : 0 < bs.length := List.length_pos_of_mem h1
      rw [List.length_cons]
      omega
  have strict : ∀ (bs as : List Int), as.Nodup → (∀ k, k ∈ as → k ∈ bs) → ¬ bs.Nodup → as.length < bs.length := by
    intro bs
    induction bs with
    | nil => intro as _ _ h; exact absurd List.nodup_nil h
    | cons b r ih =>
      intro as hn hs hb
      rw [List.length_cons]
      by_cases hbr : b ∈ r
      · have := sub as r hn fun k hk => by
          rcases List.mem_cons.mp (hs k hk) with e | e
          · rw [e]; exact hbr
          · exact e
        omega
      · have hr : ¬ r.Nodup := fun z => hb (List.nodup_cons.mpr ⟨hbr, z⟩)
        have h1 := ih (as.erase b) (hn.erase b) (fun k hk => by
          have h2 := hn.mem_erase_iff.mp hk
          rcases List.mem_cons.mp (hs k h2.2) with e | e
          · exact absurd e h2.1
          · exact e) hr
        by_cases ha : b ∈ as
        · rw [List.length_erase_of_mem ha] at h1
          omega
        · rw [List.erase_of_not_mem ha] at h1
          omega
  constructor
  · intro e
    apply Classical.byContradiction
    intro h
    have := strict bs as ha (fun k hk => (hm k).mpr hk) h
    omega
  · intro hb
    have h1 := sub as bs ha fun k hk => (hm k).mpr hk
    have h2 := sub bs as hb fun k hk => (hm k).mp hk
    omega
theorem pe_lenSetU {X : Cx} {a : Expr} {ta : TE} {p p2 q pos : Pos} (hg : Gl X "len") (hm : X.mg "len" = none) (hg2 : Gl X "set") (hm2 : X.mg "set" = none) (ha : PE X a ta) (hc : X.calm = true := by rfl)
    (na : starEach [a] X.env = (false, eval a X.env) :: starEach [] X.env := by rfl) : PE X (.Call (.Name "len" p) [.Call (.Name "set" p2) [a] [] q] [] pos) (tLenSetU X.K ta) := by
  constructor
  intro pins s σ H Q I h
  refine Call_ (ld_blt I hg hm boot_len (callWith_builtin1 (args_cons (Call_ (ld_blt I hg2 hm2 boot_set (callWith_type1 (args_cons (thn (ha.run pins s σ H _ I h) fun v s1 hv => args_nil ?_) na) na rfl))) rfl) rfl rfl))
  obtain ⟨x, H1, I1, r1, l, ns, rfl, hq, hl, q1⟩ := hv
  cases r1
  obtain ⟨its, r, pl, hz⟩ := I1.tuple hq
  refine call_set_tupI ns (I1.ok.hd hc) pl (by simpa using RZ.intsAre_vals r) (by unfold scanBound; omega) fun h' tk c hS hcl hk => args_nil ?_
  obtain ⟨o, es, ep, t, ho, hex, hd, _, hnd, hS2, hb, hf, hsz, _⟩ := hS
  have I2 : Inv X pins σ H1 { s1 with heap := h', toks := tk } := I1.kept hk
  refine call_len_set ho hex hd hf (by unfold scanBound at hb; omega) ⟨.int es.size, H1, I2.tok _, ⟨_, rfl⟩, q1 es.size ?_⟩
  have e := nodup_same (bs := ns) hnd fun k => by
    rw [← hS2 k]
    simp
  rwa [List.length_map, Array.length_toList] at e
/-! ### repr of data, where no repr is under way -/
def rRepr (K : PySem.W.Frag) : List V → Hp → VK → Prop := fun xs H Q => ∃ (a : Addr) (d : PyData), xs = [.ref a] ∧ Dp K H (.ref a) d ∧ d.showable = true ∧ d.hasDict = false ∧ d.depth ≤ 20 ∧ d.shown.length ≤ sizeLine ∧ Q (.str d.shown) H
theorem call_reprD {X : Cx} (hg : X.A.guards = some []) (hu : X.A.units + 64 < cLine) : CallR X (.builtin "repr") (rRepr X.K) := by
  intro pins s σ H xs us Q I r h
  obtain ⟨a, d, rfl, hd, hs, hn, hp, hz, q⟩ := h
  obtain ⟨u, rfl, ru⟩ := vals1 r
  cases ru
  obtain ⟨as, rd⟩ := Dp.reads I d _ _ hd rfl
  exact repr_of_reads' rd hs (PyData.noDict_hsm hn) hg (by omega) (fun _ _ e => e) (fun h' u tk hk => ⟨.str d.shown, H, I.kept hk, ⟨_, rfl⟩, q⟩) hz
/-! ### a call by keywords alone -/
theorem kbn_of {K : PySem.W.Frag} {x qual : Str} {st : Stmt} {f : Addr} {fd : FuncData} {ps : List Str} (F : Fun K x qual st f fd) (n : Nat) (ks : List Str) (g : {α : Type} → List α → List α → List α)
    (rel : ∀ {vs zs : List V} {us ws : List Value}, Vals vs us → Vals zs ws → Vals (g vs zs) (g us ws))
    (h : ∀ (kV doc pm : Value) (an : Option Addr) (cdv ct : Value) (us ws : List Value), us.length = n → ws.length = ks.length → bindArgs (PySem.W.fnOf x qual (defArgs st) (defBody st) (defScope st) .none kV doc pm an cdv ct) ⟨us, ks.zip ws⟩ = pure (ps.zip (g us ws))) :
    KBn K fd ps n ks (fun us ws => g us ws) (fun vs zs => g vs zs) := by
  obtain ⟨_, _, kV, doc, pm, an, cdv, ct, _, rfl, _, _⟩ := F.ex
  exact ⟨fun s us ws _ l1 l2 => .of_eq (h kV doc pm an cdv ct us ws l1 l2), rel⟩
theorem pe_callN0 {X : Cx} {CX : CXT} {k : Nat} {f : Addr} {fd : FuncData} {ps ks : List Str} {sp : Sp} {E : XK} {x : Str} {p pos : Pos} {kws : List Keyword} {tk : TA} {g : List Value → List Value → List Value} {gV : List V → List V → List V}
    (F : FnOk X.prog X.w X.K X.mg X.base CX k f fd ps sp) (hr : Room k X.A) (hg : Gl X x) (hm : X.mg x = some (.ref f)) (hk : PySem.W.keepIn X.K (.ref f) = true) (hb : KBn X.K fd ps 0 ks g gV) (hx : Passes CX X E)
    (hkw : PK X kws tk) (hall : (backToKw pos (keywordEach kws X.env)).all (·.1.isSome) = true := by rfl) (hks : (backToKw pos (keywordEach kws X.env)).filterMap (·.1) = ks := by rfl) (hdb : (x == ("__debug__" : Str)) = false := by decide)
    (hpl : ((backTo pos (starEach [] X.env)).any (·.1) || (backToKw pos (keywordEach kws X.env)).any (·.1.isNone)) = false := by rfl) :
    PE X (.Call (.Name x p) [] kws pos) (tCallN 0 ks.length sp gV E tNil tk) := by
  constructor
  intro pins s σ H Q I h
  refine wpAny_Call_Name_kw (ld_glob I hg hm (PySem.W.callWith_KW0 (h₀ := X.base) I.ok.mod.kin hk hall (thn (hkw.run pos pins s σ H _ I h) fun ws s2 hv => ?_) hpl) hdb)
  obtain ⟨zs, H2, I2, rz, l1, l2, q2⟩ := hv
  refine ⟨I2.kIn, ?_⟩
  rw [hks]
  exact run_fnN (us := []) (vs := []) F hr hb hx I2 .nil rz rfl l2 q2
/-! ### defs that are called where no repr is under way -/
structure FnG (P : Program) (w : World) (K : PySem.W.Frag) (mg : Str → Option Value) (base : Heap) (k : Nat) (f : Addr) (fd : FuncData) (ps : List Str) (sp : Sp) : Prop where
  len : ∀ {vs H Q E}, sp vs H Q E → vs.length = ps.length
  go : ∀ {A : Around} {outer : List Env} {s : Shared} {H : Hp} {args : Args} {us : List Value} {vs : List V} {Q : VK} {E : XK}, A.guards = some [] → Room k A → Env0 P w K mg base A outer s H → BindsTo s fd args (ps.zip us) → Vals vs us →
    sp vs H Q E → codeAny (model P w) A (.call (.ref f) args) (CR CX0 outer P w H s Q E) s
theorem fn_g {P : Program} {w : World} {K : PySem.W.Frag} {mg : Str → Option Value} {base : Heap} {x qual : Str} {st : Stmt} {f : Addr} {fd : FuncData} {N ps : List Str} {k : Nat} {sp : Sp} (F : Fun K x qual st f fd) (S : FnScope N ps (defScope st))
    (len : ∀ {vs H Q E}, sp vs H Q E → vs.length = ps.length)
    (hbody : ∀ (cdv : Value) (A : Around) (outer : List Env) (s : Shared) (H : Hp) (vs : List V) (Q : VK) (E : XK), A.guards = some [] → Room k (A.deeper (envOfC qual (defScope st) s.heap.objs.size f cdv)) → sp vs H Q E →
      ∃ t, PSs (cxOf CX0 P w K mg base N qual (defScope st) f cdv A outer s H E).nox (defBody st) t ∧ t { nx := fun _ H' => Q .non H', rt := Q } (start N vs) H) : FnG P w K mg base (k + 1) f fd ps sp := by
  obtain ⟨oc, od, kV, doc, pm, an, cdv, ct, osl, rfl, lk, hcd⟩ := F.ex
  refine ⟨len, fun {A outer s H args us vs Q E} hgd hr e0 hb r hsp => ?_⟩
  have kin : K.In s.heap := e0.mod.kin.keeps fun b o e => (e0.bs b o e).1
  have nl : s.heap.NoLimit := e0.mod.nolimit.keeps fun b o e => (e0.bs b o e).1
  refine codeAny_call_function hr.depth (kin _ _ lk) rfl S.co S.gen rfl (PySem.W.codeRec_of kin hcd) (hb _ _ _ _ (wpAny_newFunctionEnv_cells S.kind ?_ fun env he s1 x => ?_))
  · intro y hy
    have hp : y.1 ∈ ps := (List.of_mem_zip (a := y.1) (b := y.2) hy).1
    exact (S.par y.1 hp).imp id fun q => ⟨q, PySem.W.cellsFrom_some _ _ _ (.inl q)⟩
  · cases he
    obtain ⟨t, ht, hq⟩ := hbody cdv A outer s H vs Q E hgd (hr.deeper _) hsp
    have I := inv_start (CX := CX0) (P := P) (w := w) (base := base) (E := E) (qual := qual) (f := f) (cd := cdv) S hr.hd e0 (len hsp) r x
    refine ⟨nl.keeps x.toInCall.keep, codeAny_func (wpAny_mono (ht.nox.run [] s1 (start N vs) H _ I hq) (fun fl s' hs => ?_) fun _ _ hs => hs)⟩
    cases fl with
    | ret u =>
      obtain ⟨v, σ', H', J, rv, q⟩ := hs
      exact ⟨v, H', J.os, J.bare, J.base, J.hok, rv, q⟩
    | next =>
      obtain ⟨σ', H', J, q⟩ := hs
      exact ⟨.non, H', J.os, J.bare, J.base, J.hok, rfl, q⟩
    | brk => exact hs.elim fun _ h => h.elim fun _ h => h.2.elim
    | cont => exact hs.elim fun _ h => h.elim fun _ h => h.2.elim
/-- the call of the law itself: at its own room no repr is under way -/
theorem law_g {P : Program} {w : World} {K : PySem.W.Frag} {mg mb : Str → Option Value} {k : Nat} {fa a : Addr} {fd : FuncData} {x : Str} {sp : Sp} {s₁ : Shared} {vs : List Value} {ns : List Int}
    (kin : K.In s₁.heap) (hns : s₁.heap.Ns mainGlobals mg) (hb : s₁.heap.Ns builtinsNs mb) (hbb : ∀ x : Str, x ≠ "__name__" → mb x = bootBuiltins x) (hlim : s₁.heap.NoLimit) (hg : s₁.gens = #[])
    (ha : s₁.heap.get? a = some { cls := .type "list", data := .seq vs.toArray }) (hi : IntsAre vs ns) (hl : ns.length ≤ sizeLine) (hr : Room k callerA)
    (F : ∀ base : Heap, K.In base → base.Ns mainGlobals mg → FnG P w K mg base k fa fd [x] sp) (hbind : ∀ (s : Shared) (u : Value), BindsTo s fd ⟨[u], []⟩ [(x, u)])
    (hsp : ∀ H : Hp, Only H → SqL K H a (ns.map V.int) → sp [.ref a] H (fun v _ => v = .bl true) fun _ _ _ => False) :
    codeAny (model P w) callerA (.call (.ref fa) ⟨[.ref a], []⟩) (fun r s' => r = .ok (.ret (.bool true)) ∧ OldK s₁.heap s'.heap ∧ s'.os = s₁.os ∧ AllBare s'.gens) s₁ := by
  have rv := vals_ints hi
  have run : ∀ H : Hp, Only H → SqL K H a (ns.map V.int) → HOk P w H s₁.heap → (∀ b u, H b = some u → b = a ∧ K.lookup a = none) →
      codeAny (model P w) callerA (.call (.ref fa) ⟨[.ref a], []⟩) (fun r s' => r = .ok (.ret (.bool true)) ∧ OldK s₁.heap s'.heap ∧ s'.os = s₁.os ∧ AllBare s'.gens) s₁ := by
    intro H hO hS hok hA
    have none_of : ∀ b : Addr, (b = a → K.lookup a ≠ none) → H b = none := fun b hb => by
      cases q : H b with
      | none => rfl
      | some u =>
        obtain ⟨e1, e2⟩ := hA b u q
        exact absurd e2 (hb e1)
    have ns_of : ∀ {b : Addr} {m : Str → Option Value}, s₁.heap.Ns b m → (hidT s₁.heap H).Ns b m := fun {b m} hm => by
      obtain ⟨o, es, ep, e, d, r⟩ := hm
      refine ⟨o, es, ep, hidT_get e ?_, d, r⟩
      cases q : H b with
      | none => rfl
      | some u =>
        obtain ⟨e1, _⟩ := hA b u q
        rw [e1, ha] at e
        cases e
        exact absurd d (by intro z; cases z)
    have kb : K.In (hidT s₁.heap H) := fun b o e => hidT_get (kin b o e) (none_of b fun e1 z => by
      rw [e1, z] at e
      cases e)
    have hM : Mod K mg (hidT s₁.heap H) := ⟨kb, ns_of hns, ⟨mb, ns_of hb, hbb⟩, hlim.elim fun mc h => ⟨mc, ns_of h.1, h.2⟩⟩
    have e0 : Env0 P w K mg (hidT s₁.heap H) callerA [] s₁ H := ⟨rfl, hM, fun _ _ e => of_hidT e, by rw [hidT_size] <;> exact Nat.le_refl _, trivial, fun _ hb => (nomatch hb), hok, .of_eq hg⟩
    refine codeAny_mono ((F _ kb (ns_of hns)).go rfl hr e0 (us := [.ref a]) (hbind s₁ (.ref a)) (vs := [.ref a]) (.cons rfl .nil) (hsp H hO hS)) fun r s' h => ?_
    match r, h with
    | .ok (.ret u), h =>
      obtain ⟨v, H', os, bare, un, hok', r', q⟩ := h
      cases (show v = .bl true from q)
      cases (show u = Value.bool true from r')
      refine ⟨rfl, OldK.of_keep fun b o e => ?_, os, bare⟩
      rcases hO b with z | ⟨ob, xs, z⟩
      · exact un.keep b o e z (fun y => (nomatch y)) (fun y => (nomatch y))
      · obtain ⟨e1, _⟩ := hok b _ z
        obtain ⟨e2, _⟩ := hok' b _ (un.frzs b ob _ z)
        rw [e] at e1
        cases e1
        exact e2
    | .error e, h => exact False.elim h
    | .ok .next, h => exact False.elim h
    | .ok .brk, h => exact False.elim h
    | .ok .cont, h => exact False.elim h
  cases hk : K.lookup a with
  | some o =>
    have e := kin a o hk
    rw [ha] at e
    cases e
    refine run (fun _ => none) (fun _ => .inl rfl) (.inr ⟨_, vs.toArray, _, hk, rfl, rfl, rfl, ?_, by simpa using rv⟩) (fun b u z => (nomatch z)) (fun b u z => (nomatch z))
    rw [List.size_toArray, hi.length]
    exact hl
  | none =>
    have at_a : ∀ b u, (if b = a then some (HO.frz { cls := .type "list", data := .seq vs.toArray } (.lst (ns.map V.int))) else none) = some u → b = a ∧ u = HO.frz { cls := .type "list", data := .seq vs.toArray } (.lst (ns.map V.int)) := fun b u z => by
      by_cases hb : b = a
      · rw [if_pos hb] at z
        exact ⟨hb, (Option.some.inj z).symm⟩
      · rw [if_neg hb] at z
        cases z
    refine run (fun b => if b = a then some (.frz { cls := .type "list", data := .seq vs.toArray } (.lst (ns.map V.int))) else none) (fun b => ?_) (.inl (.inr ⟨_, if_pos rfl⟩)) (fun b u z => ?_) fun b u z => ⟨(at_a b u z).1, hk⟩
    · by_cases hb : b = a
      · exact .inr ⟨_, _, if_pos hb⟩
      · exact .inl (if_neg hb)
    · obtain ⟨e1, e2⟩ := at_a b u z
      subst e1
      subst e2
      exact ⟨ha, by rw [List.length_map]; exact hl, vs, _, rv, ha⟩
theorem walk_g {l : PySem.W.OpenLaw} {n k : Nat} {q : Program} {loose : List Str} {XP : (Str → Option Value) → Heap → Prop} {YP : World → Heap → Prop} {d : DefRec} {K : Params → PySem.W.Frag} {sp : World → Sp} {x : Str}
    (hn : l.most = some n) (hn2 : n ≤ sizeLine) (hdf : d.params.defaults = []) (hr : Room k callerA) (hY : ∀ (w : World) (h : Heap), YP w h → (K w.params).In h)
    (F : ∀ (w : World) (mg : Str → Option Value) (fa : Addr) (h : Heap), (K w.params).In h → h.Ns mainGlobals mg → mg d.name = some (.ref fa) →
      ∃ fd : FuncData, (∀ (s : Shared) (u : Value), BindsTo s fd ⟨[u], []⟩ [(x, u)]) ∧ ∀ base : Heap, (K w.params).In base → base.Ns mainGlobals mg → FnG l.prog w (K w.params) mg base k fa fd [x] (sp w))
    (hsp : ∀ (w : World) (H : Hp) (a : Addr) (ns : List Int), ns.length ≤ n → Only H → SqL (K w.params) H a (ns.map V.int) → sp w [.ref a] H (fun v _ => v = .bl true) fun _ _ _ => False) :
    PySem.W.WalkO q loose XP YP l.row.toRowW d [] (fun f vs => PySem.call f vs) := by
  refine Att.attach_call hn hdf fun w s₀ s₁ mg mb fa o pm cd doc a vs ns G Y ho hd hcd hmg hobj hints hlen hg => ?_
  obtain ⟨fd, h1, h2⟩ := F w mg fa _ (hY w _ Y) G.T.g hmg
  exact law_g (hY w _ Y) G.T.g G.T.b G.T.builtins G.T.nolimit hg hobj hints (Nat.le_trans hlen hn2) hr h2 h1 fun H hO hS => hsp w H a ns hlen hO hS

def topS (i : Nat) : Stmt := PySem.Challenge.pw_threelanes_k02_integers_and_lots.main.body.getD i (.Pass ⟨0, 0, 0, 0⟩)
abbrev sInteger : Stmt := topS 1
abbrev sWithin : Stmt := topS 2
abbrev sList : Stmt := topS 3
abbrev sRow : Stmt := topS 4
abbrev sUn : Stmt := topS 5
abbrev sLot : Stmt := topS 6
abbrev sTub : Stmt := topS 8
abbrev sScoop : Stmt := topS 9
abbrev sPick : Stmt := topS 10
abbrev sStirred : Stmt := topS 11
abbrev sAny : Stmt := topS 12
abbrev sLaw : Stmt := topS 13
theorem scScoop : FnScope ["tub", "many", "rest", "turn", "cell", "mixed"] ["tub", "many"] (defScope sScoop) := ⟨rfl, rfl, rfl, by decide +kernel, rfl, by decide +kernel, by decide +kernel⟩

/-- all but the object at t is as it was -/
def Kept (t : Addr) (H H' : Hp) : Prop := ∀ a o, a ≠ t → H a = some o → H' a = some o
theorem Kept.refl (t : Addr) (H : Hp) : Kept t H H := fun _ _ _ h => h
theorem Kept.trans {t : Addr} {H H1 H2 : Hp} (a : Kept t H H1) (b : Kept t H1 H2) : Kept t H H2 := fun x o n h => b x o n (a x o n h)
theorem Kept.of {t : Addr} {H H' : Hp} (e : Same H H') : Kept t H H' := fun x o _ h => e x o h
theorem Kept.upd (t : Addr) (H : Hp) (o : HO) : Kept t H (upd H t o) := fun a u n e => by
  rw [upd_ne n]
  exact e
theorem Kept.seq {K : PySem.W.Frag} {t : Addr} {H H' : Hp} {c : Addr} {xs : List V} (k : Kept t H H') (n : c ≠ t) (h : SqL K H c xs) : SqL K H' c xs := by
  rcases h with (h | ⟨o, h⟩) | h
  · exact .inl (.inl (k _ _ n h))
  · exact .inl (.inr ⟨o, k _ _ n h⟩)
  · exact .inr h
/-- the drawer of numbers at t: its cells at c, its turn of n at most, its rest -/
def Tub (H : Hp) (t c : Addr) (n : Nat) : Prop := ∃ (cs : List Int) (turn rest : Int),
  H t = some (.lst [.ref c, .int turn, .int rest]) ∧ H c = some (.lst (cs.map V.int)) ∧ c ≠ t ∧ cs.length ≤ 60 ∧ 0 ≤ turn ∧ turn ≤ n ∧ 0 ≤ rest
theorem Tub.mono {H : Hp} {t c : Addr} {n m : Nat} (T : Tub H t c n) (h : n ≤ m) : Tub H t c m := by
  obtain ⟨cs, turn, rest, h1, h2, h3, h4, h5, h6, h7⟩ := T
  exact ⟨cs, turn, rest, h1, h2, h3, h4, h5, by omega, h7⟩
theorem Tub.same {H H' : Hp} {t c : Addr} {n : Nat} (T : Tub H t c n) (e : Same H H') : Tub H' t c n := by
  obtain ⟨cs, turn, rest, h1, h2, h3, h4, h5, h6, h7⟩ := T
  exact ⟨cs, turn, rest, e _ _ h1, e _ _ h2, h3, h4, h5, h6, h7⟩
theorem Tub.ne {H : Hp} {t c p : Addr} {n : Nat} (T : Tub H t c n) (h : H p = none) : p ≠ t ∧ p ≠ c := by
  obtain ⟨cs, turn, rest, h1, h2, _⟩ := T
  exact ⟨(ne_of_none h1 h).symm, (ne_of_none h2 h).symm⟩
/-- an object that is neither of the drawer's two may change -/
theorem Tub.upd {H : Hp} {t c p : Addr} {n : Nat} {o : HO} (T : Tub H t c n) (h1 : p ≠ t) (h2 : p ≠ c) : Tub (upd H p o) t c n := by
  obtain ⟨cs, turn, rest, a1, a2, h⟩ := T
  refine ⟨cs, turn, rest, ?_, ?_, h⟩
  · rw [upd_ne h1.symm]
    exact a1
  · rw [upd_ne h2.symm]
    exact a2
theorem same_new {H : Hp} {p : Addr} {o : HO} (h : H p = none) : Same H (upd H p o) := fun b x e => by
  rw [upd_ne (ne_of_none e h)]
  exact e

open Evl in
theorem kept_ex {t : Addr} {H H' : Hp} (e : Evl.Ex H H') : Kept t H H' := fun x o _ h => e x o h
theorem Tub.ex {H H' : Hp} {t c : Addr} {n : Nat} (T : Tub H t c n) (e : Evl.Ex H H') : Tub H' t c n := T.same e
section
open Evl
variable {K : PySem.W.Frag} {σ : L2.St} {H H' : Hp} {ta tb te : TE} {x y z v : V}
theorem ev_int {i : Int} (h : Ev ta σ H (.int i)) : Ev (tCB (fun xs H Q => (∃ i, xs = [V.int i] ∧ Q (V.int i) H) ∨ ∃ k, xs = [V.bl k] ∧ Q (V.int (if k = true then 1 else 0)) H) (tCons ta tNil)) σ H (.int i) :=
  ev_cb (ea_cons h ea_nil) fun H1 _ _ q => .inl ⟨i, rfl, q H1 (Ex.refl H1)⟩
theorem ev_intB {b : Bool} (h : Ev ta σ H (.bl b)) : Ev (tCB (fun xs H Q => (∃ i, xs = [V.int i] ∧ Q (V.int i) H) ∨ ∃ k, xs = [V.bl k] ∧ Q (V.int (if k = true then 1 else 0)) H) (tCons ta tNil)) σ H (.int (if b = true then 1 else 0)) :=
  ev_cb (ea_cons h ea_nil) fun H1 _ _ q => .inr ⟨b, rfl, q H1 (Ex.refl H1)⟩
theorem ev_abs {i : Int} (h : Ev ta σ H (.int i)) : Ev (tCB (fun xs H Q => ∃ i, xs = [V.int i] ∧ Q (V.int (if i < 0 then -i else i)) H) (tCons ta tNil)) σ H (.int (if i < 0 then -i else i)) :=
  ev_cb (ea_cons h ea_nil) fun H1 _ _ q => ⟨i, rfl, q H1 (Ex.refl H1)⟩
theorem dp_ints {c : Addr} : ∀ (cs : List Int), DpAll K H (cs.map V.int) (cs.map PyData.int)
  | [] => .nil
  | i :: r => .cons (.int i) (dp_ints (c := c) r)
/-- a list of ints is not the empty one -/
theorem ev_neNil {c : Addr} {cs : List Int} (h : Ev ta σ H (.ref c)) (hc : SqL K H c (cs.map V.int)) : Ev (tOp (rNeD K) ta (tLst tNil)) σ H (.bl (!cs.isEmpty)) :=
  ev_opL (xs := []) h (el_lst ea_nil (Nat.zero_le _)) fun p H1 hp e => fun H2 e2 Q q => by
    refine ⟨.list (cs.map PyData.int), .list [], .lst (ex_l (e.trans e2) hc) (dp_ints (c := c) cs), .lst (sq_of (e2 _ _ hp)) .nil, PySem.W.ke_shaped_ints cs, by decide +kernel, ?_⟩
    have e3 : PyData.eqv (.list (cs.map PyData.int)) (.list []) = cs.isEmpty := by cases cs <;> rfl
    rw [e3]
    exact q H2 (Ex.refl H2)
theorem fmod_pos {a b : Int} (hb : 1 ≤ b) : 0 ≤ a.fmod b ∧ a.fmod b < b := by
  rw [Int.fmod_eq_emod_of_nonneg a (by omega)]
  exact ⟨Int.emod_nonneg _ (by omega), Int.emod_lt_of_pos _ (by omega)⟩
theorem fdiv_pos {a b : Int} (ha : 0 ≤ a) (hb : 1 ≤ b) : 0 ≤ a.fdiv b := by
  rw [Int.fdiv_eq_ediv_of_nonneg a (by omega)]
  exact Int.ediv_nonneg ha (by omega)
theorem mix_a {x turn : Int} (hx0 : 0 ≤ x) (hx : x < 2147483648) (h0 : 0 ≤ turn) (h1 : turn ≤ 1000000) : (x + 26314 * turn + 9946).natAbs < 2 ^ 64 := by omega
theorem mix_b {m turn : Int} (hm0 : 0 ≤ m) (hm : m < 2147483648) (h0 : 0 ≤ turn) (h1 : turn ≤ 1000000) : (m * (2 * turn + 4005) + 70232 * turn * turn + 26314).natAbs < 2 ^ 64 := by
  have a1 : m * (2 * turn + 4005) ≤ 2147483648 * 2004005 := Int.mul_le_mul (by omega) (by omega) (by omega) (by omega)
  have a2 : 0 ≤ m * (2 * turn + 4005) := Int.mul_nonneg hm0 (by omega)
  have b1 : 70232 * turn * turn ≤ 70232000000 * 1000000 := Int.mul_le_mul (by omega) (by omega) (by omega) (by omega)
  have b2 : 0 ≤ 70232 * turn * turn := Int.mul_nonneg (by omega) (by omega)
  generalize m * (2 * turn + 4005) = p at *
  generalize 70232 * turn * turn = r at *
  omega
theorem cell_at (cs : List Int) (turn d : Int) (h0 : 0 ≤ turn) : ∃ z, (cs.isEmpty = false → atI (cs.map V.int) (turn.fmod ((cs.map V.int).length : Int)) = some (.int z)) ∧ (cs.isEmpty = true → z = d) := by
  cases cs with
  | nil => exact ⟨d, fun h => (nomatch h), fun _ => rfl⟩
  | cons x r =>
    have hb := fmod_pos (a := turn) (b := (((x :: r).map V.int).length : Int)) (by rw [List.length_map, List.length_cons]; omega)
    obtain ⟨j, hj⟩ : ∃ j : Nat, turn.fmod (((x :: r).map V.int).length : Int) = (j : Int) := ⟨(turn.fmod (((x :: r).map V.int).length : Int)).toNat, by omega⟩
    rw [hj] at hb ⊢
    have hl : j < (x :: r).length := by
      rw [List.length_map] at hb
      omega
    refine ⟨(x :: r)[j], fun _ => atI_nat ?_, fun h => (nomatch h)⟩
    rw [List.getElem?_map, List.getElem?_eq_getElem hl]
    rfl
end

def spScoop : Sp := fun vs H Q _ => ∃ (t c : Addr) (many : Int) (n : Nat), vs = [.ref t, .int many] ∧ Tub H t c n ∧ n ≤ 1000000 ∧ 1 ≤ many ∧ many ≤ 100000 ∧
  ∀ r H', 0 ≤ r → r < many → Kept t H H' → Tub H' t c (n + 1) → Q (.int r) H'
section
variable {P : Program} {w : World} {K : PySem.W.Frag} {mg : Str → Option Value} {base : Heap}
theorem ok_scoop {f : Addr} {fd : FuncData} {k : Nat} (F : Fun K "_law_scoop" "_law_scoop" sScoop f fd) (mint : mg "int" = none) (mlen : mg "len" = none) (mabs : mg "abs" = none) : FnOk P w K mg base CX0 (k + 1) f fd ["tub", "many"] spScoop := by
  refine F.ok scScoop (fun vs H Q E h => ?_) (fun cdv A outer s H vs Q E hr h => ?_)
  · obtain ⟨t, c, m, n, rfl, _⟩ := h
    rfl
  · obtain ⟨t, c, many, n, rfl, hT, hn, hm1, hm2, q⟩ := h
    have nd := scScoop.nd
    refine ⟨_, pss_cons (ps_if (pt_cmpR op_gt (pe_ix ix_list (pv 0) pe_int (fun _ _ => rfl)) pe_int (nomark _))
        (pss_cons (ps_set (i := 2) nd rfl (.inl rfl) (pe_callTy call_int1 (by rfl) mint (by decide +kernel) (pa_cons (pe_ix ix_list (pv 0) pe_int (fun _ _ => rfl)) pa_nil)))
        (pss_cons (ps_asg (pe_op op_fdivN (pv 2) (pv 1)) (pg_sub (pv 0) pe_int set_list))
        (pss_one (ps_ret (pe_op op_modN (pe_callTy call_int1 (by rfl) mint (by decide +kernel) (pa_cons (pv 2) pa_nil)) (pv 1)))))) pss_nil)
      (pss_cons (ps_set (i := 3) nd rfl (.inl rfl) (pe_ix ix_list (pv 0) pe_int (fun _ _ => rfl)))
      (pss_cons (ps_asg (pe_op op_add (pv 3) pe_int) (pg_sub (pv 0) pe_int set_list))
      (pss_cons (ps_set (i := 4) nd rfl (.inl rfl) (pe_op op_add (pe_op op_mul pe_int (pv 3)) pe_int))
      (pss_cons (ps_if (pt_cmpR (op_neD hr.units) (pe_ix ix_list (pv 0) pe_int (fun _ _ => rfl)) (pe_lst pa_nil) (nomark _))
        (pss_one (ps_set (i := 4) nd rfl (.inl rfl) (pe_ix ix_list (pe_ix ix_list (pv 0) pe_int (fun _ _ => rfl)) (pe_op op_modN (pe_callTy call_int1 (by rfl) mint (by decide +kernel) (pa_cons (pv 3) pa_nil)) (pe_callB call_len_seq (by rfl) mlen PySem.boot_len (pa_cons (pe_ix ix_list (pv 0) pe_int (fun _ _ => rfl)) pa_nil))) (fun _ _ => rfl)))) pss_nil)
      (pss_cons (ps_if (PW.pt (pw_and (pt_cmpR op_lt (pv 3) (pe_callB call_len_seq (by rfl) mlen PySem.boot_len (pa_cons (pe_ix ix_list (pv 0) pe_int (fun _ _ => rfl)) pa_nil)) (nomark _)) (pw_and1 (pt_cmpR op_ge (pe_callB call_abs (by rfl) mabs (by decide +kernel) (pa_cons (pv 4) pa_nil)) (pe_op op_pow pe_int pe_int) (nomark _)))))
        (pss_cons (ps_set (i := 2) nd rfl (.inl rfl) (pe_op op_add (pe_op op_mul pe_int (pe_op op_sub (pe_callB call_abs (by rfl) mabs (by decide +kernel) (pa_cons (pv 4) pa_nil)) (pe_op op_pow pe_int pe_int))) (pe_callTy call_int1 (by rfl) mint (by decide +kernel) (pa_cons (pe_cmpR op_lt (pv 4) pe_int (nomark _)) pa_nil))))
        (pss_cons (ps_asg (pe_op op_fdivN (pv 2) (pv 1)) (pg_sub (pv 0) pe_int set_list))
        (pss_one (ps_ret (pe_op op_modN (pe_callTy call_int1 (by rfl) mint (by decide +kernel) (pa_cons (pv 2) pa_nil)) (pv 1)))))) pss_nil)
      (pss_cons (ps_set (i := 5) nd rfl (.inl rfl) (pe_op op_modN (pe_callTy call_int1 (by rfl) mint (by decide +kernel) (pa_cons (pe_op op_pow (pe_op op_add (pe_op op_add (pe_op op_modN (pe_callTy call_int1 (by rfl) mint (by decide +kernel) (pa_cons (pv 4) pa_nil)) pe_int) (pe_op op_mul pe_int (pv 3))) pe_int) pe_int) pa_nil)) pe_int))
      (pss_cons (ps_set (i := 5) nd rfl (.inl rfl) (pe_op op_modN (pe_callTy call_int1 (by rfl) mint (by decide +kernel) (pa_cons (pe_op op_pow (pe_op op_add (pe_op op_add (pe_op op_mul (pv 5) (pe_op op_add (pe_op op_mul pe_int (pv 3)) pe_int)) (pe_op op_mul (pe_op op_mul pe_int (pv 3)) (pv 3))) pe_int) pe_int) pa_nil)) pe_int))
      (pss_one (ps_ret (pe_op op_modN (pe_callTy call_int1 (by rfl) mint (by decide +kernel) (pa_cons (pe_op op_fdivN (pv 5) pe_int) pa_nil)) (pv 1))))))))))), ?_⟩
    obtain ⟨cs, turn, rest, ht, hc, hct, hcl, hu0, hun, hr0⟩ := hT
    have tubAt : ∀ {σ : L2.St} {H' : Hp} {j : Nat} {v : V} {xs : List V}, σ[0]? = some (some (.ref t)) → H' t = some (.lst xs) → xs[j]? = some v → Evl.Ev (tOp (rIxL K) (tVar 0) (tC (.int (j : Int)))) σ H' v :=
      fun hs h hv => Evl.ev_op (Evl.ev_var hs) Evl.ev_c (Evl.rv_ixL (Evl.sq_of h) (atI_nat hv))
    have turnS : turn ≤ 1000000 := by omega
    refine Evl.q_when (b := decide (0 < rest)) (Evl.et_test (Evl.ev_op (tubAt (j := 2) rfl ht rfl) Evl.ev_c Evl.rv_I0)) (fun hb H1 e1 => ?_) (fun hb H1 e1 => ?_)
    · refine Evl.q_asg (ev_int (tubAt (j := 2) rfl (e1 _ _ ht) rfl)) fun H2 e2 => ?_
      refine Evl.q_setL (l := t) (j := 2) (e2 _ _ (e1 _ _ ht)) (Evl.ev_op (Evl.ev_var rfl) (Evl.ev_var rfl) (Evl.rv_I ⟨by omega, by omega⟩)) (Evl.ev_var rfl) Evl.ev_c (by show 2 < 3; omega) fun H3 e3 => ?_
      refine Evl.s_ret (Evl.ev_op (ev_int (Evl.ev_var rfl)) (Evl.ev_var rfl) (Evl.rv_I (by omega))) fun H4 e4 => ?_
      have e13 := (e1.trans e2).trans e3
      refine q _ _ (fmod_pos hm1).1 (fmod_pos hm1).2 (((kept_ex e13).trans (Kept.upd t H3 _)).trans (kept_ex e4)) (Tub.ex ?_ e4)
      exact ⟨cs, turn, rest.fdiv many, upd_same, Kept.upd t H3 _ _ _ hct (e13 _ _ hc), hct, hcl, hu0, by omega, fdiv_pos hr0 hm1⟩
    · refine Evl.q_asg (tubAt (j := 1) rfl (e1 _ _ ht) rfl) fun H2 e2 => ?_
      refine Evl.q_setL (l := t) (j := 1) (e2 _ _ (e1 _ _ ht)) (Evl.ev_op (Evl.ev_var rfl) Evl.ev_c Evl.rv_I0) (Evl.ev_var rfl) Evl.ev_c (by show 1 < 3; omega) fun H3 e3 => ?_
      have e13 := (e1.trans e2).trans e3
      have k3 : Kept t H (upd H3 t (.lst [.ref c, .int (turn + 1), .int rest])) := (kept_ex e13).trans (Kept.upd t H3 _)
      have h3 : (upd H3 t (.lst [.ref c, .int (turn + 1), .int rest])) t = some (.lst [.ref c, .int (turn + 1), .int rest]) := upd_same
      show tSeq _ _ _ _ (upd H3 t (.lst [.ref c, .int (turn + 1), .int rest]))
      generalize upd H3 t (.lst [.ref c, .int (turn + 1), .int rest]) = H3' at k3 h3 ⊢
      have hc3 : H3' c = some (.lst (cs.map V.int)) := k3 _ _ hct hc
      obtain ⟨cell, z1, z2⟩ := cell_at cs turn (70232 * turn + 9946) hu0
      refine Evl.q_asg (Evl.ev_op (Evl.ev_op Evl.ev_c (Evl.ev_var rfl) (Evl.rv_I (.inl ⟨by omega, by omega⟩))) Evl.ev_c Evl.rv_I0) fun H4 e4 => ?_
      refine Evl.q_ifAsg (b := !cs.isEmpty) (v := .int cell) (Evl.et_test (ev_neNil (tubAt (j := 0) rfl (e4 _ _ h3) rfl) (Evl.sq_of (e4 _ _ hc3))))
        (fun hb => ?_) (fun hb => ?_) fun H5 e5 => ?_
      · have hce : cs.isEmpty = false := by
          cases hq : cs.isEmpty with
          | true => rw [hq] at hb; cases hb
          | false => rfl
        have hne : ((cs.map V.int).length : Int) ≠ 0 := by
          rw [List.length_map]
          cases cs with
          | nil => cases hce
          | cons x r => rw [List.length_cons]; omega
        exact Evl.ev_op (tubAt (j := 0) rfl (e4 _ _ h3) rfl) (Evl.ev_op (ev_int (Evl.ev_var rfl)) (Evl.ev_len (tubAt (j := 0) rfl (e4 _ _ h3) rfl) (Evl.sq_of (e4 _ _ hc3))) (Evl.rv_I hne)) (Evl.rv_ixL (Evl.sq_of (e4 _ _ hc3)) (z1 hce))
      · have hce : cs.isEmpty = true := by
          cases hq : cs.isEmpty with
          | true => rfl
          | false => rw [hq] at hb; cases hb
        rw [z2 hce]
        rfl
      have e35 := e4.trans e5
      have k5 : Kept t H H5 := k3.trans (kept_ex e35)
      have h5 := e35 _ _ h3
      have hc5 := e35 _ _ hc3
      clear e4 e5 e35 h3 hc3 k3 e1 e2 e3 e13
      refine Evl.q_when (Evl.et_and (Evl.et_test (Evl.ev_op (Evl.ev_var rfl) (Evl.ev_len (tubAt (j := 0) rfl h5 rfl) (Evl.sq_of hc5)) Evl.rv_I0)) fun _ => Evl.et_test (Evl.ev_op (ev_abs (Evl.ev_var rfl)) (Evl.ev_op Evl.ev_c Evl.ev_c (Evl.rv_I ⟨by decide, by decide, by decide⟩)) Evl.rv_I0)) (fun hb H6 e6 => ?_) (fun hb H6 e6 => ?_)
      · have hb2 := (Bool.and_eq_true_iff.mp hb).2
        have hbig : (10 : Int) ^ 18 ≤ (if cell < 0 then -cell else cell) := of_decide_eq_true hb2
        refine Evl.q_asg (Evl.ev_op (Evl.ev_op Evl.ev_c (Evl.ev_op (ev_abs (Evl.ev_var rfl)) (Evl.ev_op Evl.ev_c Evl.ev_c (Evl.rv_I ⟨by decide, by decide, by decide⟩)) Evl.rv_I0) (Evl.rv_I (.inl ⟨by decide, by decide⟩))) (ev_intB (Evl.ev_op (Evl.ev_var rfl) Evl.ev_c Evl.rv_I0)) Evl.rv_I0) fun H7 e7 => ?_
        have hr2 : (0 : Int) ≤ 2 * ((if cell < 0 then -cell else cell) - 10 ^ (18 : Int).toNat) + (if decide (cell < 0) = true then 1 else 0) := by
          have e18 : (18 : Int).toNat = 18 := rfl
          rw [e18]
          split <;> omega
        generalize (2 * ((if cell < 0 then -cell else cell) - 10 ^ (18 : Int).toNat) + (if decide (cell < 0) = true then 1 else 0) : Int) = rest2 at hr2 ⊢
        refine Evl.q_setL (l := t) (j := 2) (e7 _ _ (e6 _ _ h5)) (Evl.ev_op (Evl.ev_var rfl) (Evl.ev_var rfl) (Evl.rv_I ⟨by omega, by omega⟩)) (Evl.ev_var rfl) Evl.ev_c (by show 2 < 3; omega) fun H8 e8 => ?_
        refine Evl.s_ret (Evl.ev_op (ev_int (Evl.ev_var rfl)) (Evl.ev_var rfl) (Evl.rv_I (by omega))) fun H9 e9 => ?_
        have e68 := (e6.trans e7).trans e8
        refine q _ _ (fmod_pos hm1).1 (fmod_pos hm1).2 (((k5.trans (kept_ex e68)).trans (Kept.upd t H8 _)).trans (kept_ex e9)) (Tub.ex ?_ e9)
        exact ⟨cs, turn + 1, rest2.fdiv many, upd_same, Kept.upd t H8 _ _ _ hct (e68 _ _ hc5), hct, hcl, by omega, by omega, fdiv_pos hr2 hm1⟩
      · have c1 := fmod_pos (a := cell) (b := 2070928679) (by decide)
        refine Evl.q_asg (Evl.ev_op (ev_int (Evl.ev_op (Evl.ev_op (Evl.ev_op (Evl.ev_op (ev_int (Evl.ev_var rfl)) Evl.ev_c (Evl.rv_I (by decide))) (Evl.ev_op Evl.ev_c (Evl.ev_var rfl) (Evl.rv_I (.inl ⟨by decide, by decide⟩))) Evl.rv_I0) Evl.ev_c Evl.rv_I0) Evl.ev_c (Evl.rv_I ⟨by decide, by decide, mix_a c1.1 (by omega) hu0 turnS⟩))) Evl.ev_c (Evl.rv_I (by decide))) fun H7 e7 => ?_
        have m1 := fmod_pos (a := (cell.fmod 2070928679 + 26314 * turn + 9946) ^ (5 : Int).toNat) (b := 2061149953) (by decide)
        generalize ((cell.fmod 2070928679 + 26314 * turn + 9946) ^ (5 : Int).toNat).fmod 2061149953 = mx at m1 ⊢
        refine Evl.q_asg (Evl.ev_op (ev_int (Evl.ev_op (Evl.ev_op (Evl.ev_op (Evl.ev_op (Evl.ev_var rfl) (Evl.ev_op (Evl.ev_op Evl.ev_c (Evl.ev_var rfl) (Evl.rv_I (.inl ⟨by decide, by decide⟩))) Evl.ev_c Evl.rv_I0) (Evl.rv_I (.inl ⟨by omega, by omega⟩))) (Evl.ev_op (Evl.ev_op Evl.ev_c (Evl.ev_var rfl) (Evl.rv_I (.inl ⟨by decide, by decide⟩))) (Evl.ev_var rfl) (Evl.rv_I (.inl ⟨by omega, by omega⟩))) Evl.rv_I0) Evl.ev_c Evl.rv_I0) Evl.ev_c (Evl.rv_I ⟨by decide, by decide, mix_b m1.1 (by omega) hu0 turnS⟩))) Evl.ev_c (Evl.rv_I (by decide))) fun H8 e8 => ?_
        refine Evl.s_ret (Evl.ev_op (ev_int (Evl.ev_op (Evl.ev_var rfl) Evl.ev_c (Evl.rv_I ⟨by decide, by decide⟩))) (Evl.ev_var rfl) (Evl.rv_I (by omega))) fun H9 e9 => ?_
        have e69 := ((e6.trans e7).trans e8).trans e9
        exact q _ _ (fmod_pos hm1).1 (fmod_pos hm1).2 (k5.trans (kept_ex e69)) ⟨cs, turn + 1, rest, e69 _ _ h5, e69 _ _ hc5, hct, hcl, by omega, by omega, hr0⟩
end

theorem scPick : FnScope ["tub", "some"] ["tub", "some"] (defScope sPick) := ⟨rfl, rfl, rfl, by decide +kernel, rfl, by decide +kernel, by decide +kernel⟩
theorem scTub : FnScope ["script", "cell"] ["script"] (defScope sTub) := ⟨rfl, rfl, rfl, by decide +kernel, rfl, by decide +kernel, by decide +kernel⟩
theorem scStirred : FnScope ["tub", "some", "left", "found"] ["tub", "some"] (defScope sStirred) := ⟨rfl, rfl, rfl, by decide +kernel, rfl, by decide +kernel, by decide +kernel⟩
theorem scAny : FnScope ["tub", "number", "odd"] ["tub"] (defScope sAny) := ⟨rfl, rfl, rfl, by decide +kernel, rfl, by decide +kernel, by decide +kernel⟩
/-- an item at a drawn place -/
theorem at_drawn {xs : List V} {r : Int} (h0 : 0 ≤ r) (h1 : r < (xs.length : Int)) : ∃ (j : Nat) (v : V), xs[j]? = some v ∧ atI xs r = some v := by
  obtain ⟨j, rfl⟩ : ∃ j : Nat, r = (j : Int) := ⟨r.toNat, by omega⟩
  have hj : j < xs.length := by omega
  exact ⟨j, xs[j], List.getElem?_eq_getElem hj, atI_nat (List.getElem?_eq_getElem hj)⟩
def spPick (K : PySem.W.Frag) : Sp := fun vs H Q _ => ∃ (t c l : Addr) (xs : List V) (n : Nat), vs = [.ref t, .ref l] ∧ Tub H t c n ∧ n < 1000000 ∧ l ≠ t ∧ SqL K H l xs ∧ 1 ≤ xs.length ∧ xs.length ≤ 10000 ∧
  ∀ (j : Nat) (v : V) (H' : Hp), xs[j]? = some v → Kept t H H' → Tub H' t c (n + 1) → Q v H'
/-- the drawer as it is made: new -/
def spTub (K : PySem.W.Frag) : Sp := fun vs H Q _ => ∃ (a : Addr) (ns : List Int), vs = [.ref a] ∧ SqL K H a (ns.map V.int) ∧ ns.length ≤ 1000 ∧ ∀ t c H', H t = none → H c = none → Same H H' → Tub H' t c 0 → Q (.ref t) H'
theorem given_all {α : Type} (ns : List α) (d : α) (f : α → V) : Evl.given ns.length (fun _ => true) (fun i => f (ns.getD i d)) = ns.map f := by
  unfold Evl.given
  rw [List.filter_eq_self.mpr (fun _ _ => rfl)]
  refine List.ext_getElem (by simp) fun i h1 h2 => ?_
  have h3 : i < ns.length := by simpa using h2
  simp [List.getD_eq_getElem?_getD, h3]
theorem erase_map : ∀ (l : List Int) (j : Nat), (l.map V.int).eraseIdx j = (l.eraseIdx j).map V.int
  | [], j => by simp
  | _ :: _, 0 => rfl
  | a :: r, j + 1 => by
    have ih := erase_map r j
    simp [ih]
/-! ### going on behind an argument, a list made, a call -/
theorem ret_lst {t : TA} {D : Ends} {σ : L2.St} {H : Hp} (h : t σ H fun xs H1 => xs.length ≤ sizeLine ∧ ∀ p, H1 p = none → D.rt (.ref p) (upd H1 p (.lst xs))) : tRet (tLst t) D σ H := h
theorem go_l {te : TE} {σ : L2.St} {H : Hp} {Q : VK} {xs : List V} (h : Evl.EvL te σ H xs) (k : ∀ p H1, H p = none → Evl.Ex H H1 → H1 p = some (.lst xs) → Q (.ref p) H1) : te σ H Q := h H (Evl.Ex.refl H) Q k
theorem go_v {te : TE} {σ : L2.St} {H : Hp} {Q : VK} {v : V} (h : Evl.Ev te σ H v) (k : ∀ H1, Evl.Ex H H1 → Q v H1) : te σ H Q := h H (Evl.Ex.refl H) Q k
theorem cons_l {ta : TE} {tr : TA} {σ : L2.St} {H : Hp} {Q : List V → Hp → Prop} {xs : List V} (h : Evl.EvL ta σ H xs) (k : ∀ p H1, H p = none → Evl.Ex H H1 → H1 p = some (.lst xs) → tr σ H1 fun vs H2 => Q (.ref p :: vs) H2) : tCons ta tr σ H Q := h H (Evl.Ex.refl H) _ k
theorem cons_v {ta : TE} {tr : TA} {σ : L2.St} {H : Hp} {Q : List V → Hp → Prop} {v : V} (h : Evl.Ev ta σ H v) (k : ∀ H1, Evl.Ex H H1 → tr σ H1 fun vs H2 => Q (v :: vs) H2) : tCons ta tr σ H Q := h H (Evl.Ex.refl H) _ k
theorem et_yes {σ : L2.St} {H : Hp} : Evl.EvT tYes σ H true := fun H1 _ _ q => q H1 (Evl.Ex.refl H1)
theorem cut60 (xs : List V) : cutV xs none (some 60) = xs.take 60 := by
  unfold cutV
  rw [HT.sIx_none, show HT.sIx xs.length xs.length (some 60) = min 60 xs.length from HT.sIx_nat _ _ 60, List.drop_zero, Nat.sub_zero]
  by_cases h : 60 ≤ xs.length
  · rw [Nat.min_eq_left h]
  · rw [Nat.min_eq_right (by omega), List.take_length, List.take_of_length_le (by omega)]
/-- the same numbers in another order: what is asked of it -/
def spStirred (K : PySem.W.Frag) : Sp := fun vs H Q _ => ∃ (t c l : Addr) (ns : List Int) (n : Nat), vs = [.ref t, .ref l] ∧ Tub H t c n ∧ n + ns.length ≤ 1000000 ∧ l ≠ t ∧ SqL K H l (ns.map V.int) ∧ ns.length ≤ 10000 ∧
  ∀ (ms : List Int) (p : Addr) (H' : Hp), ms.length = ns.length → (∀ x, x ∈ ms → x ∈ ns) → H p = none → Kept t H H' → H' p = some (.lst (ms.map V.int)) → Tub H' t c (n + ns.length) → Q (.ref p) H'
section
variable {P : Program} {w : World} {K : PySem.W.Frag} {mg : Str → Option Value} {base : Heap}
theorem ok_pick {f fS : Addr} {fd fdS : FuncData} {k : Nat} (F : Fun K "_law_pick" "_law_pick" sPick f fd) (FS : Fun K "_law_scoop" "_law_scoop" sScoop fS fdS) (GS : FnOk P w K mg base CX0 k fS fdS ["tub", "many"] spScoop) (bS : Binds K fdS ["tub", "many"] [])
    (gS : mg "_law_scoop" = some (.ref fS)) (mlen : mg "len" = none) : FnOk P w K mg base CX0 (k + 1) f fd ["tub", "some"] (spPick K) := by
  refine F.ok scPick (fun vs H Q E h => ?_) (fun cdv A outer s H vs Q E hr h => ?_)
  · obtain ⟨t, c, l, xs, n, rfl, _⟩ := h
    rfl
  · obtain ⟨t, c, l, xs, n, rfl, hT, hn, hlt, hS, h1, h2, q⟩ := h
    refine ⟨_, pss_one (ps_ret (pe_ix ix_list (pv 1) (pe_call GS hr (by rfl) gS FS.kp bS .nil pass0 (pa_cons (pv 0) (pa_cons (pe_callB call_len_seq (by rfl) mlen PySem.boot_len (pa_cons (pv 1) pa_nil)) pa_nil))) (fun _ _ => rfl))), ?_⟩
    refine ⟨.ref l, rfl, .ref t, rfl, .ref l, rfl, l, xs, rfl, .inl hS, t, c, (xs.length : Int), n, rfl, hT, by omega, by omega, by omega, fun r H' r0 r1 hk hT' => ?_⟩
    obtain ⟨j, v, hj, ha⟩ := at_drawn r0 r1
    exact ⟨l, xs, r, v, rfl, rfl, hk.seq hlt hS, ha, q j v H' hj hk hT'⟩
theorem ok_tub {f : Addr} {fd : FuncData} {k : Nat} (F : Fun K "_law_tub" "_law_tub" sTub f fd) (mint : mg "int" = none) : FnOk P w K mg base CX0 (k + 1) f fd ["script"] (spTub K) := by
  refine F.ok scTub (fun vs H Q E h => ?_) (fun cdv A outer s H vs Q E hr h => ?_)
  · obtain ⟨a, ns, rfl, _⟩ := h
    rfl
  · obtain ⟨a, ns, rfl, hS, hl, q⟩ := h
    have nd := scTub.nd
    refine ⟨_, pss_one (ps_ret (pe_lst (pa_cons (pe_lc (own := [("cell", 1)]) (g := gName 1) (tt := tYes) rfl nd (pi_list (pe_slice sl_list (pv 0) po_none (po_some pe_int))) (blkOk_by (N := ["script", "cell"]) (sc := defScope sTub) (by decide +kernel)) (fun _ _ _ _ _ => pg_name (i := 1) nd rfl (Or.inl rfl)) (fun _ _ _ _ _ => pts_nil) (fun _ _ _ _ _ => pe_callTy call_int1 (by rfl) mint (by decide +kernel) (pa_cons (pv 1) pa_nil))) (pa_cons pe_int (pa_cons pe_int pa_nil))))), ?_⟩
    have e0 : cutV (ns.map V.int) none (some 60) = (ns.take 60).map V.int := by rw [cut60, List.map_take]
    refine ret_lst (cons_l (Evl.el_lcNL (K := K) (H := H) (j := 1) (xs := (ns.take 60).map V.int) (fun _ => true) (fun i => V.int ((ns.take 60).getD i 0)) ?_ ?_ ?_ ?_ ?_) (fun p H1 hp e1 h1 => ?_))
    · rw [← e0]
      exact Evl.el_sl (Evl.ev_var rfl) Evl.eo_none (Evl.eo_some Evl.ev_c) hS
    · rw [List.length_map, List.length_take]
      omega
    · exact fun x => rfl
    · exact fun i x H1 _ _ => et_yes
    · intro i x H1 _ hx _
      have hx2 : x = V.int ((ns.take 60).getD i 0) := by
        rw [List.getElem?_map] at hx
        cases hz : (ns.take 60)[i]? with
        | none => rw [hz] at hx; cases hx
        | some z =>
          rw [hz] at hx
          rw [List.getD_eq_getElem?_getD, hz]
          exact (Option.some.inj hx).symm
      subst hx2
      exact ev_int (Evl.ev_var rfl)
    · rw [List.length_map, given_all (ns.take 60) 0 V.int] at h1
      refine ⟨by show 3 ≤ sizeLine; decide, fun t ht => ?_⟩
      refine q t p _ (Evl.fresh_back e1 ht) hp (fun b o hb => ?_) ⟨ns.take 60, 0, 0, upd_same, ?_, ne_of_none h1 ht, by rw [List.length_take]; omega, Int.le_refl _, Int.le_refl _, Int.le_refl _⟩
      · rw [upd_ne (ne_of_none (e1 _ _ hb) ht)]
        exact e1 _ _ hb
      · rw [upd_ne (ne_of_none h1 ht)]
        exact h1
theorem ok_stirred {f fS : Addr} {fd fdS : FuncData} {k : Nat} (F : Fun K "_law_stirred" "_law_stirred" sStirred f fd) (FS : Fun K "_law_scoop" "_law_scoop" sScoop fS fdS) (GS : FnOk P w K mg base CX0 k fS fdS ["tub", "many"] spScoop) (bS : Binds K fdS ["tub", "many"] [])
    (gS : mg "_law_scoop" = some (.ref fS)) (mlen : mg "len" = none) (mlist : mg "list" = none) : FnOk P w K mg base CX0 (k + 1) f fd ["tub", "some"] (spStirred K) := by
  refine F.ok scStirred (fun vs H Q E h => ?_) (fun cdv A outer s H vs Q E hr h => ?_)
  · obtain ⟨t, c, l, ns, n, rfl, _⟩ := h
    rfl
  · obtain ⟨t, c, l, ns, n, rfl, hT, hn, hlt, hS, hl, q⟩ := h
    have nd := scStirred.nd
    refine ⟨_, pss_cons (ps_par (i := 2) (j := 3) (by rfl) nd rfl rfl (by decide) rfl rfl (pa_cons (pe_callTy call_list_of (by rfl) mlist (by decide +kernel) (pa_cons (pv 1) pa_nil)) (pa_cons (pe_lst pa_nil) pa_nil)) (by rfl))
      (pss_cons (ps_while PassesOwn.never (pt_cmpR (op_neD hr.units) (pv 2) (pe_lst pa_nil) (nomark _))
        (pss_one (ps_expr (pe_bm PySem.F.plainAttrs_list PySem.F.slot_list_append PySem.F.type_list_append mt_append (pv 3) (pa_cons (pe_bm PySem.F.plainAttrs_list PySem.F.slot_list_pop PySem.F.type_list_pop mt_popAt (pv 2)
          (pa_cons (pe_call GS hr (by rfl) gS FS.kp bS .nil pass0 (pa_cons (pv 0) (pa_cons (pe_callB call_len_seq (by rfl) mlen PySem.boot_len (pa_cons (pv 2) pa_nil)) pa_nil))) pa_nil)) pa_nil)))))
      (pss_one (ps_ret (pv 3)))), ?_⟩
    refine ⟨.ref l, rfl, l, _, rfl, .inl hS, fun L hL => ⟨Nat.zero_le _, fun Fd hF => ⟨.ref L, .ref Fd, rfl, ?_⟩⟩⟩
    obtain ⟨hLt, hLc⟩ := hT.ne hL
    have hHF : H Fd = none := by
      cases hq : H Fd with
      | none => rfl
      | some o =>
        rw [upd_ne (ne_of_none hq hL), hq] at hF
        cases hF
    obtain ⟨hFt, hFc⟩ := hT.ne hHF
    have hFL : Fd ≠ L := by
      intro e
      rw [e, upd_same] at hF
      cases hF
    refine Evl.q_while (fun m σ' H' => ∃ as bs : List Int, σ' = [some (.ref t), some (.ref l), some (.ref L), some (.ref Fd)] ∧ as.length = m ∧ as.length + bs.length = ns.length ∧ (∀ x, x ∈ as → x ∈ ns) ∧ (∀ x, x ∈ bs → x ∈ ns) ∧
      H' L = some (.lst (as.map V.int)) ∧ H' Fd = some (.lst (bs.map V.int)) ∧ Kept t H H' ∧ Tub H' t c (n + bs.length)) ns.length ?_ ?_
    · refine ⟨ns, [], rfl, rfl, rfl, fun _ h => h, fun _ h => (nomatch h), ?_, upd_same, ?_, ?_⟩
      · rw [upd_ne hFL.symm, upd_same]
      · exact (kept_ex (Evl.Ex.new hL)).trans (kept_ex (Evl.Ex.new hF))
      · exact (hT.same (same_new hL)).same (same_new hF)
    · rintro m σ' H' ⟨as, bs, rfl, hm, hsum, hA, hB, h1, h2, hk, hT'⟩
      refine ⟨_, Evl.et_test (ev_neNil (Evl.ev_var rfl) (Evl.sq_of h1)), fun hb H1 e1 => ?_, fun hb H1 e1 => ?_⟩
      · have hpos : 0 < as.length := by
          cases as with
          | nil => cases hb
          | cons x r => exact Nat.succ_pos _
        refine ⟨fun σ2 H2 => ∃ m', m' < m ∧ ∃ as bs : List Int, σ2 = [some (.ref t), some (.ref l), some (.ref L), some (.ref Fd)] ∧ as.length = m' ∧ as.length + bs.length = ns.length ∧ (∀ x, x ∈ as → x ∈ ns) ∧ (∀ x, x ∈ bs → x ∈ ns) ∧
          H2 L = some (.lst (as.map V.int)) ∧ H2 Fd = some (.lst (bs.map V.int)) ∧ Kept t H H2 ∧ Tub H2 t c (n + bs.length), fun _ _ h => h, ?_⟩
        refine ⟨.ref Fd, rfl, .inl ⟨rfl, _, Evl.sq_of (e1 _ _ h2)⟩, .ref L, rfl, .inl ⟨rfl, _, Evl.sq_of (e1 _ _ h1)⟩, .ref t, rfl, .ref L, rfl, L, _, rfl, .inl (Evl.sq_of (e1 _ _ h1)), t, c, _, n + bs.length, rfl, hT'.ex e1, by omega, ?_, ?_, ?_⟩
        · rw [List.length_map]; omega
        · rw [List.length_map]; omega
        · intro r H2 r0 r1 hk2 hT2
          rw [List.length_map] at r1
          obtain ⟨j, rfl⟩ : ∃ j : Nat, r = (j : Int) := ⟨r.toNat, by omega⟩
          have hj : j < as.length := by omega
          refine ⟨L, as.map V.int, (j : Int), j, .int as[j], rfl, rfl, hk2 _ _ hLt (e1 _ _ h1), by omega, by omega, ?_, ?_, ?_⟩
          · rw [seqIndex_of (by omega) (by rw [List.length_map]; omega)]
            simp
          · rw [List.getElem?_map, List.getElem?_eq_getElem hj]
            rfl
          · refine ⟨Fd, bs.map V.int, .int as[j], rfl, rfl, ?_, ?_, ?_⟩
            · rw [upd_ne hFL]
              exact hk2 _ _ hFt (e1 _ _ h2)
            · rw [List.length_map]
              exact Nat.lt_of_le_of_lt (by omega : bs.length ≤ 10000) (by decide)
            · refine ⟨m - 1, by omega, as.eraseIdx j, bs ++ [as[j]], rfl, ?_, ?_, ?_, ?_, ?_, ?_, ?_, ?_⟩
              · rw [List.length_eraseIdx_of_lt hj]; omega
              · rw [List.length_eraseIdx_of_lt hj, List.length_append]
                show as.length - 1 + (bs.length + 1) = _
                omega
              · exact fun x hx => hA x (List.mem_of_mem_eraseIdx hx)
              · intro x hx
                rcases List.mem_append.mp hx with h | h
                · exact hB x h
                · rw [List.mem_singleton.mp h]
                  exact hA _ (List.getElem_mem hj)
              · rw [upd_ne hFL.symm, upd_same, erase_map]
              · rw [upd_same, List.map_append]
                rfl
              · intro b o hb ho
                have ho' := hk _ _ hb ho
                have hbL : b ≠ L := ne_of_none ho hL
                have hbF : b ≠ Fd := ne_of_none ho hHF
                rw [upd_ne hbF, upd_ne hbL]
                exact hk2 _ _ hb (e1 _ _ ho')
              · rw [List.length_append]
                exact ((hT2.upd hLt hLc).upd hFt hFc).mono (Nat.le_refl _)
      · have has : as = [] := by
          cases as with
          | nil => rfl
          | cons x r => cases hb
        subst has
        rw [List.length_nil, Nat.zero_add] at hsum
        refine ⟨.ref Fd, rfl, ?_⟩
        rw [hsum] at hT'
        exact q bs Fd H1 hsum hB hHF (hk.trans (kept_ex e1)) (e1 _ _ h2) (hT'.ex e1)
end

/-- a plain value and the name of its type -/
inductive Ty7 (K : PySem.W.Frag) (H : Hp) : V → String → Prop where
  | non : Ty7 K H .non "NoneType"
  | bl (b : Bool) : Ty7 K H (.bl b) "bool"
  | int (i : Int) : Ty7 K H (.int i) "int"
  | str (s : Str) : Ty7 K H (.str s) "str"
  | lst {a : Addr} {xs : List V} (h : SqL K H a xs) : Ty7 K H (.ref a) "list"
  | tup {a : Addr} {xs : List V} (h : SqT K H a xs) : Ty7 K H (.ref a) "tuple"
  | dK {a : Addr} {kvs : List (L2.Key × V)} (h : H a = some (.dK kvs)) : Ty7 K H (.ref a) "dict"
section
variable {K : PySem.W.Frag} {H H' : Hp} {x : V} {n : String}
theorem Ty7.tyx (h : Ty7 K H x n) : TyX K H x (.type n) := by
  cases h with
  | non => exact .base .non
  | bl b => exact .base (.bl b)
  | int i => exact .base (.int i)
  | str s => exact .base (.str s)
  | lst h =>
    rcases h with (h | ⟨o, h⟩) | ⟨o, its, m, h1, h2, _⟩
    · exact .base (.lst h)
    · exact .base (.frz h)
    · exact .kList h1 h2
  | tup h =>
    rcases h with (h | ⟨o, h⟩) | ⟨o, its, m, h1, h2, _⟩
    · exact .base (.tup h)
    · exact .fTuple h
    · exact .kTuple h1 h2
  | dK h => exact .base (.dK h)
theorem Ty7.ex (h : Ty7 K H x n) (e : Evl.Ex H H') : Ty7 K H' x n := by
  cases h with
  | non => exact .non
  | bl b => exact .bl b
  | int i => exact .int i
  | str s => exact .str s
  | lst h => exact .lst (Evl.ex_l e h)
  | tup h => exact .tup (Evl.ex_t e h)
  | dK h => exact .dK (e _ _ h)
/-- isinstance of one built-in class -/
def is7 (n c : String) : Bool := (L2.kitB n c).getD false
theorem Ty7.kit (h : Ty7 K H x n) {c : String} (hc : c = "int" ∨ c = "bool" ∨ c = "list" ∨ c = "tuple") : PySem.W.kitOne K (.type n) (.type c) = some (is7 n c) := by
  refine kit_ty ?_
  rcases hc with rfl | rfl | rfl | rfl <;> cases h <;> decide +kernel
theorem Ty7.isInt (h : Ty7 K H x n) : (is7 n "int" && !is7 n "bool") = decide (n = "int") := by
  cases h <;> decide +kernel
theorem Ty7.isSeq (h : Ty7 K H x n) : (is7 n "list" || is7 n "tuple") = (decide (n = "list") || decide (n = "tuple")) := by
  cases h <;> decide +kernel
theorem rc_isi (h : Ty7 K H x n) {c : String} (hc : c = "int" ∨ c = "bool" ∨ c = "list" ∨ c = "tuple") : Evl.RC (rIsi K) [x, .ty c] H (.bl (is7 n c)) :=
  fun H1 e _ q => ⟨x, .ty c, .type n, .type c, is7 n c, rfl, .ty c, (h.ex e).tyx, (h.ex e).kit hc, q H1 (Evl.Ex.refl H1)⟩
theorem rv_isN : Evl.RV (fun x y H Q => y = .non ∧ Q (.bl (decide (x = .non))) H) x .non H (.bl (decide (x = .non))) := fun H1 _ _ q => ⟨rfl, q H1 (Evl.Ex.refl H1)⟩
end
/-- None, or an integer -/
def Bnd : V → Prop
  | .non => True
  | .int _ => True
  | _ => False
def okLo : V → Int → Bool
  | .int j, i => decide (j ≤ i)
  | _, _ => true
def okHi : V → Int → Bool
  | .int j, i => decide (i ≤ j)
  | _, _ => true
/-- whether it is an integer within the bounds -/
def wi : V → V → V → Bool
  | .int i, lo, hi => okLo lo i && okHi hi i
  | _, _, _ => false
def spInteger (K : PySem.W.Frag) : Sp := fun vs H Q _ => ∃ (x : V) (n : String), vs = [x] ∧ Ty7 K H x n ∧ ∀ H1, Evl.Ex H H1 → Q (.bl (decide (n = "int"))) H1
theorem spv_integer {K : PySem.W.Frag} {H : Hp} {x : V} {n : String} (h : Ty7 K H x n) : Evl.SpV (spInteger K) [x] H (.bl (decide (n = "int"))) := fun H1 e Q q E => ⟨x, n, rfl, h.ex e, q⟩
def spWithin (K : PySem.W.Frag) : Sp := fun vs H Q _ => ∃ (x lo hi : V) (n : String), vs = [x, lo, hi] ∧ Ty7 K H x n ∧ Bnd lo ∧ Bnd hi ∧ ∀ H1, Evl.Ex H H1 → Q (.bl (wi x lo hi)) H1
theorem spv_within {K : PySem.W.Frag} {H : Hp} {x lo hi : V} {n : String} (h : Ty7 K H x n) (h1 : Bnd lo) (h2 : Bnd hi) : Evl.SpV (spWithin K) [x, lo, hi] H (.bl (wi x lo hi)) := fun H1 e Q q E => ⟨x, lo, hi, n, rfl, h.ex e, h1, h2, q⟩
def spList (K : PySem.W.Frag) : Sp := fun vs H Q _ => ∃ (x : V) (n : String), vs = [x] ∧ Ty7 K H x n ∧ ∀ H1, Evl.Ex H H1 → Q (.bl (decide (n = "list") || decide (n = "tuple"))) H1
theorem spv_list {K : PySem.W.Frag} {H : Hp} {x : V} {n : String} (h : Ty7 K H x n) : Evl.SpV (spList K) [x] H (.bl (decide (n = "list") || decide (n = "tuple"))) := fun H1 e Q q E => ⟨x, n, rfl, h.ex e, q⟩
theorem scInteger : FnScope ["value"] ["value"] (defScope sInteger) := ⟨rfl, rfl, rfl, by decide +kernel, rfl, by decide +kernel, by decide +kernel⟩
theorem scWithin : FnScope ["value", "least", "most"] ["value", "least", "most"] (defScope sWithin) := ⟨rfl, rfl, rfl, by decide +kernel, rfl, by decide +kernel, by decide +kernel⟩
theorem scList : FnScope ["value"] ["value"] (defScope sList) := ⟨rfl, rfl, rfl, by decide +kernel, rfl, by decide +kernel, by decide +kernel⟩
theorem scLot : FnScope ["value"] ["value"] (defScope sLot) := ⟨rfl, rfl, rfl, by decide +kernel, rfl, by decide +kernel, by decide +kernel⟩
section
variable {P : Program} {w : World} {K : PySem.W.Frag} {mg : Str → Option Value} {base : Heap}
theorem ok_integer {f : Addr} {fd : FuncData} {k : Nat} (F : Fun K "is_integer" "is_integer" sInteger f fd) (mi : mg "isinstance" = none) (mint : mg "int" = none) (mbool : mg "bool" = none) : FnOk P w K mg base CX0 (k + 1) f fd ["value"] (spInteger K) := by
  refine F.ok scInteger (fun vs H Q E h => ?_) (fun cdv A outer s H vs Q E hr h => ?_)
  · obtain ⟨x, n, rfl, _⟩ := h
    rfl
  · obtain ⟨x, n, rfl, h, q⟩ := h
    refine ⟨_, pss_one (ps_ret (pe_and (pe_callB call_isi (by rfl) mi (by decide +kernel) (pa_cons (pv 0) (pa_cons (pe_bltn (v := .ty "int") (by rfl) mint (by decide +kernel) rfl) pa_nil)))
      (pe_one (pe_not (pe_callB call_isi (by rfl) mi (by decide +kernel) (pa_cons (pv 0) (pa_cons (pe_bltn (v := .ty "bool") (by rfl) mbool (by decide +kernel) rfl) pa_nil))))))), ?_⟩
    refine Evl.s_ret (v := .bl (is7 n "int" && !is7 n "bool")) (Evl.ev_andV (Evl.ev_cb (Evl.ea_cons (Evl.ev_var rfl) (Evl.ea_cons Evl.ev_c Evl.ea_nil)) (rc_isi h (.inl rfl))) fun _ =>
      Evl.ev_notV (Evl.ev_cb (Evl.ea_cons (Evl.ev_var rfl) (Evl.ea_cons Evl.ev_c Evl.ea_nil)) (rc_isi h (.inr (.inl rfl))))) fun H1 e1 => ?_
    rw [h.isInt]
    exact q H1 e1
theorem ok_list {f : Addr} {fd : FuncData} {k : Nat} (F : Fun K "is_list" "is_list" sList f fd) (mi : mg "isinstance" = none) (ml : mg "list" = none) (mt : mg "tuple" = none) : FnOk P w K mg base CX0 (k + 1) f fd ["value"] (spList K) := by
  refine F.ok scList (fun vs H Q E h => ?_) (fun cdv A outer s H vs Q E hr h => ?_)
  · obtain ⟨x, n, rfl, _⟩ := h
    rfl
  · obtain ⟨x, n, rfl, h, q⟩ := h
    refine ⟨_, pss_one (ps_ret (pe_callB call_isiT (by rfl) mi (by decide +kernel) (pa_cons (pv 0) (pa_cons (pe_tup (pa_cons (pe_bltn (v := .ty "list") (by rfl) ml (by decide +kernel) rfl) (pa_cons (pe_bltn (v := .ty "tuple") (by rfl) mt (by decide +kernel) rfl) pa_nil))) pa_nil)))), ?_⟩
    refine ⟨x, rfl, (by show 2 ≤ sizeLine; decide), fun T hT => ⟨x, T, [.ty "list", .ty "tuple"], .type n, [.type "list", .type "tuple"], is7 n "list" || is7 n "tuple", rfl, upd_same, .cons (.ty _) (.cons (.ty _) .nil), (h.ex (Evl.Ex.new hT)).tyx, ?_, ?_⟩⟩
    · refine kitAny_cons (h.kit (.inr (.inr (.inl rfl)))) (fun hb => kitAny_cons (h.kit (.inr (.inr (.inr rfl)))) (fun hb2 => ?_) fun hb2 => ?_) fun hb => ?_
      · rw [hb, hb2]; exact kitAny_nil
      · rw [hb2, Bool.or_true]
      · rw [hb, Bool.true_or]
    · show Q _ _
      rw [h.isSeq]
      exact q _ (Evl.Ex.new hT)
theorem ok_within {f fI : Addr} {fd fdI : FuncData} {k : Nat} (F : Fun K "is_within" "is_within" sWithin f fd) (FI : Fun K "is_integer" "is_integer" sInteger fI fdI) (GI : FnOk P w K mg base CX0 k fI fdI ["value"] (spInteger K)) (bI : Binds K fdI ["value"] []) (gI : mg "is_integer" = some (.ref fI)) :
    FnOk P w K mg base CX0 (k + 1) f fd ["value", "least", "most"] (spWithin K) := by
  refine F.ok scWithin (fun vs H Q E h => ?_) (fun cdv A outer s H vs Q E hr h => ?_)
  · obtain ⟨x, lo, hi, n, rfl, _⟩ := h
    rfl
  · obtain ⟨x, lo, hi, n, rfl, h, hlo, hhi, q⟩ := h
    refine ⟨_, pss_cons (ps_if (pt_not (pt_val (pe_call GI hr (by rfl) gI FI.kp bI .nil pass0 (pa_cons (pv 0) pa_nil)))) (pss_one (ps_ret pe_bl)) pss_nil)
      (pss_one (ps_ret (pe_and (pe_or (pe_cmpR op_isN (pv 1) pe_non (nomark _)) (pe_one (pe_cmpR op_ge (pv 0) (pv 1) (nomark _)))) (pe_one (pe_or (pe_cmpR op_isN (pv 2) pe_non (nomark _)) (pe_one (pe_cmpR op_le (pv 0) (pv 2) (nomark _)))))))), ?_⟩
    refine Evl.q_when (Evl.et_not (Evl.et_B (Evl.ev_call (Evl.ea_cons (Evl.ev_var rfl) Evl.ea_nil) (spv_integer h)))) (fun hb H1 e1 => ?_) (fun hb H1 e1 => ?_)
    · refine Evl.s_ret Evl.ev_c fun H2 e2 => ?_
      have hw : wi x lo hi = false := by
        cases h with
        | int i => exact absurd hb (by decide)
        | _ => rfl
      rw [← hw]
      exact q H2 (e1.trans e2)
    · cases h with
      | int i =>
        have hA : Evl.Ev (tOrV (tOp (fun x y H Q => y = .non ∧ Q (.bl (decide (x = .non))) H) (tVar 1) (tC .non)) (tOp (rI0 fun i j => V.bl (decide (j ≤ i))) (tVar 0) (tVar 1))) (start ["value", "least", "most"] [.int i, lo, hi]) H1 (.bl (okLo lo i)) := by
          cases lo with
          | non => exact Evl.ev_is (Evl.ev_orV (b := true) (Evl.ev_op (Evl.ev_var rfl) Evl.ev_c rv_isN) fun z => absurd z (by decide)) rfl
          | int j => exact Evl.ev_is (Evl.ev_orV (Evl.ev_op (Evl.ev_var rfl) Evl.ev_c rv_isN) fun _ => Evl.ev_op (Evl.ev_var rfl) (Evl.ev_var rfl) Evl.rv_I0) (by rw [show decide (V.int j = V.non) = false from rfl] <;> rfl)
          | _ => exact hlo.elim
        have hB : Evl.Ev (tOrV (tOp (fun x y H Q => y = .non ∧ Q (.bl (decide (x = .non))) H) (tVar 2) (tC .non)) (tOp (rI0 fun i j => V.bl (decide (i ≤ j))) (tVar 0) (tVar 2))) (start ["value", "least", "most"] [.int i, lo, hi]) H1 (.bl (okHi hi i)) := by
          cases hi with
          | non => exact Evl.ev_is (Evl.ev_orV (b := true) (Evl.ev_op (Evl.ev_var rfl) Evl.ev_c rv_isN) fun z => absurd z (by decide)) rfl
          | int j => exact Evl.ev_is (Evl.ev_orV (Evl.ev_op (Evl.ev_var rfl) Evl.ev_c rv_isN) fun _ => Evl.ev_op (Evl.ev_var rfl) (Evl.ev_var rfl) Evl.rv_I0) (by rw [show decide (V.int j = V.non) = false from rfl] <;> rfl)
          | _ => exact hhi.elim
        exact Evl.s_ret (Evl.ev_andV hA fun _ => hB) fun H2 e2 => q H2 (e1.trans e2)
      | _ => exact absurd hb (by decide)
end

/-- whether these items are a lot -/
def lotV (xs : List V) : Bool := xs.all (fun v => wi v (.int 1) .non) && decide xs.Nodup
/-- a value, and whether it is a lot -/
inductive LotR (K : PySem.W.Frag) (H : Hp) : V → Bool → Prop where
  | no {x : V} {n : String} (h : Ty7 K H x n) (h1 : n ≠ "list") (h2 : n ≠ "tuple") : LotR K H x false
  | lst {a : Addr} {xs : List V} (h : SqL K H a xs) (hl : xs.length ≤ 4000) (hi : ∀ v ∈ xs, ∃ n, Ty7 K H v n) : LotR K H (.ref a) (lotV xs)
  | tup {a : Addr} {xs : List V} (h : SqT K H a xs) (hl : xs.length ≤ 4000) (hi : ∀ v ∈ xs, ∃ n, Ty7 K H v n) : LotR K H (.ref a) (lotV xs)
theorem LotR.ex {K : PySem.W.Frag} {H H' : Hp} {x : V} {r : Bool} (h : LotR K H x r) (e : Evl.Ex H H') : LotR K H' x r := by
  cases h with
  | no h h1 h2 => exact .no (h.ex e) h1 h2
  | lst h hl hi => exact .lst (Evl.ex_l e h) hl fun v hv => (hi v hv).imp fun n hn => hn.ex e
  | tup h hl hi => exact .tup (Evl.ex_t e h) hl fun v hv => (hi v hv).imp fun n hn => hn.ex e
def spLot (K : PySem.W.Frag) : Sp := fun vs H Q _ => ∃ (x : V) (r : Bool), vs = [x] ∧ LotR K H x r ∧ ∀ H1, Evl.Ex H H1 → Q (.bl r) H1
theorem spv_lot {K : PySem.W.Frag} {H : Hp} {x : V} {r : Bool} (h : LotR K H x r) : Evl.SpV (spLot K) [x] H (.bl r) := fun H1 e Q q E => ⟨x, r, rfl, h.ex e, q⟩
theorem all_ints : ∀ {xs : List V}, xs.all (fun v => wi v (.int 1) .non) = true → ∃ ns : List Int, xs = ns.map V.int
  | [], _ => ⟨[], rfl⟩
  | x :: r, h => by
    rw [List.all_cons, Bool.and_eq_true_iff] at h
    obtain ⟨ns, e⟩ := all_ints h.2
    cases x with
    | int i => exact ⟨i :: ns, by rw [e]; rfl⟩
    | _ => exact absurd h.1 (by intro z; cases z)
theorem nodup_int (ns : List Int) : (ns.map V.int).Nodup ↔ ns.Nodup := by
  induction ns with
  | nil => exact ⟨fun _ => List.nodup_nil, fun _ => List.nodup_nil⟩
  | cons a r ih =>
    rw [List.map_cons, List.nodup_cons, List.nodup_cons, ih]
    refine and_congr (not_congr ?_) Iff.rfl
    rw [List.mem_map]
    exact ⟨fun ⟨b, hb, e⟩ => V.int.inj e ▸ hb, fun h => ⟨a, h, rfl⟩⟩
theorem ev_allN {K : PySem.W.Frag} {ta : TE} {σ : L2.St} {H : Hp} {bs : List Bool} (h : Evl.EvL ta σ H (bs.map V.bl)) : Evl.Ev (tCB (rAll K) (tCons ta tNil)) σ H (.bl (bs.all id)) := fun H1 e Q q =>
  h H1 e _ fun p H2 _ e2 h2 => ⟨p, bs, rfl, Evl.sq_of h2, q H2 e2⟩
/-- a comprehension over a tuple that stands -/
theorem el_lcT {K : PySem.W.Frag} {a : Addr} {xs : List V} {tl te : TE} {t : TT} {σ : L2.St} {H : Hp} {j : Nat} {vs : List Nat} (f : Nat → Bool) (v : Nat → V) (h : Evl.Ev tl σ H (.ref a)) (hx : SqT K H a xs) (hz : xs.length ≤ 40000)
    (hw : ∀ x, wipe ((wipe σ vs).set j (some x)) vs = wipe σ vs) (ht : ∀ (i : Nat) (x : V) H1, Evl.Ex H H1 → xs[i]? = some x → Evl.EvT t ((wipe σ vs).set j (some x)) H1 (f i))
    (he : ∀ (i : Nat) (x : V) H1, Evl.Ex H H1 → xs[i]? = some x → f i = true → Evl.Ev te ((wipe σ vs).set j (some x)) H1 (v i)) : Evl.EvL (tLc (iTup K tl) (gName j) t te vs) σ H (Evl.given xs.length f v) := by
  intro H0 e Q q
  refine h H0 e _ fun H1 e1 => ⟨a, rfl, ⟨xs, Evl.ex_t (e.trans e1) hx⟩, fun Dl hD => lc_tup (xs := xs) (Evl.Cw H1 f v Dl) ⟨hD, Evl.Ex.new hD, upd_same⟩ (fun i H' _ p => Evl.ex_t ((e.trans e1).trans p.2.1) hx) (fun i x H' hi p => ⟨hw x, ?_⟩) fun H' p => q Dl H' (Evl.fresh_back e1 p.1) (e1.trans p.2.1) p.2.2⟩
  have hlt := (List.getElem?_eq_some_iff.mp hi).1
  exact Evl.cw_turn p (by omega) (ht i x H1 (e.trans e1) hi) fun hf => he i x H1 (e.trans e1) hi hf
/-- a value, and whether it is a list of integers within bounds -/
inductive RowR (K : PySem.W.Frag) (H : Hp) (lo hi : V) : V → Bool → Prop where
  | no {x : V} {n : String} (h : Ty7 K H x n) (h1 : n ≠ "list") (h2 : n ≠ "tuple") : RowR K H lo hi x false
  | lst {a : Addr} {xs : List V} (h : SqL K H a xs) (hl : xs.length ≤ 4000) (hi_ : ∀ v ∈ xs, ∃ n, Ty7 K H v n) : RowR K H lo hi (.ref a) (xs.all fun v => wi v lo hi)
  | tup {a : Addr} {xs : List V} (h : SqT K H a xs) (hl : xs.length ≤ 4000) (hi_ : ∀ v ∈ xs, ∃ n, Ty7 K H v n) : RowR K H lo hi (.ref a) (xs.all fun v => wi v lo hi)
theorem RowR.ex {K : PySem.W.Frag} {H H' : Hp} {lo hi x : V} {r : Bool} (h : RowR K H lo hi x r) (e : Evl.Ex H H') : RowR K H' lo hi x r := by
  cases h with
  | no h h1 h2 => exact .no (h.ex e) h1 h2
  | lst h hl hi => exact .lst (Evl.ex_l e h) hl fun v hv => (hi v hv).imp fun n hn => hn.ex e
  | tup h hl hi => exact .tup (Evl.ex_t e h) hl fun v hv => (hi v hv).imp fun n hn => hn.ex e
def spRow (K : PySem.W.Frag) : Sp := fun vs H Q _ => ∃ (x lo hi : V) (r : Bool), vs = [x, lo, hi] ∧ RowR K H lo hi x r ∧ Bnd lo ∧ Bnd hi ∧ ∀ H1, Evl.Ex H H1 → Q (.bl r) H1
theorem scRow : FnScope ["value", "least", "most", "item"] ["value", "least", "most"] (defScope sRow) := ⟨rfl, rfl, rfl, by decide +kernel, rfl, by decide +kernel, by decide +kernel⟩
section
variable {P : Program} {w : World} {K : PySem.W.Frag} {mg : Str → Option Value} {base : Heap}
theorem ok_row {f fW fL : Addr} {fd fdW fdL : FuncData} {k : Nat} (F : Fun K "is_row" "is_row" sRow f fd)
    (FW : Fun K "is_within" "is_within" sWithin fW fdW) (GW : FnOk P w K mg base CX0 k fW fdW ["value", "least", "most"] (spWithin K)) (bW : Binds K fdW ["value", "least", "most"] []) (gW : mg "is_within" = some (.ref fW))
    (FL : Fun K "is_list" "is_list" sList fL fdL) (GL : FnOk P w K mg base CX0 k fL fdL ["value"] (spList K)) (bL : Binds K fdL ["value"] []) (gL : mg "is_list" = some (.ref fL)) (mall : mg "all" = none) :
    FnOk P w K mg base CX0 (k + 1) f fd ["value", "least", "most"] (spRow K) := by
  refine F.ok scRow (fun vs H Q E h => ?_) (fun cdv A outer s H vs Q E hr h => ?_)
  · obtain ⟨x, lo, hi, r, rfl, _⟩ := h
    rfl
  · obtain ⟨x, lo, hi, r, rfl, h, hlo, hhi, q⟩ := h
    have nd := scRow.nd
    have isl : ∀ {n : String}, Ty7 K H x n → Evl.Ev (tCall (spList K) [] E0 (tCons (tVar 0) tNil)) (start ["value", "least", "most", "item"] [x, lo, hi]) H (.bl (decide (n = "list") || decide (n = "tuple"))) :=
      fun h7 => Evl.ev_call (Evl.ea_cons (Evl.ev_var rfl) Evl.ea_nil) (spv_list h7)
    have items : ∀ {H1 : Hp} {xs : List V} {i : Nat} {v : V}, Evl.Ex H H1 → (∀ v ∈ xs, ∃ n, Ty7 K H v n) → xs[i]? = some v → Evl.Ev (tCall (spWithin K) [] E0 (tCons (tVar 3) (tCons (tVar 1) (tCons (tVar 2) tNil)))) [none, some lo, some hi, some v] H1 (.bl (wi (xs.getD i .non) lo hi)) :=
      fun {H1 xs i v} e hi' hv => by
        obtain ⟨n, hn⟩ := hi' v (List.mem_of_getElem? hv)
        have ev : xs.getD i .non = v := by rw [List.getD_eq_getElem?_getD, hv]; rfl
        rw [ev]
        exact Evl.ev_call (Evl.ea_cons (Evl.ev_var rfl) (Evl.ea_cons (Evl.ev_var rfl) (Evl.ea_cons (Evl.ev_var rfl) Evl.ea_nil))) (spv_within (hn.ex e) hlo hhi)
    have ebs : ∀ xs : List V, Evl.given xs.length (fun _ => true) (fun i => V.bl (wi (xs.getD i .non) lo hi)) = (xs.map fun v => wi v lo hi).map V.bl := fun xs => by
      rw [given_all xs .non fun v => V.bl (wi v lo hi), List.map_map]
      rfl
    have eall : ∀ xs : List V, (true && (xs.map fun v => wi v lo hi).all id) = xs.all fun v => wi v lo hi := fun xs => by
      rw [Bool.true_and, List.all_map]
      rfl
    cases h with
    | @no x n h7 h1 h2 =>
      refine ⟨_, pss_one (ps_ret (pe_and (pe_call GL hr (by rfl) gL FL.kp bL .nil pass0 (pa_cons (pv 0) pa_nil)) (pe_one (pe_callB (cr_all rfl) (by rfl) mall (by decide +kernel) (pa_cons
          (pe_lc (own := [("item", 3)]) (g := gName 3) (tt := tYes) rfl nd (pi_list (pv 0)) (blkOk_by (N := ["value", "least", "most", "item"]) (sc := defScope sRow) (by decide +kernel)) (fun _ _ _ _ _ => pg_name (i := 3) nd rfl (Or.inl rfl)) (fun _ _ _ _ _ => pts_nil)
            (fun _ _ _ _ _ => pe_call GW (hr) (by rfl) gW FW.kp bW .nil pass0 (pa_cons (pv 3) (pa_cons (pv 1) (pa_cons (pv 2) pa_nil))))) pa_nil))))), ?_⟩
      have eb : (decide (n = "list") || decide (n = "tuple")) = false := by simp [h1, h2]
      exact Evl.s_ret (Evl.ev_is (Evl.ev_andV (b := false) (isl h7) fun z => by rw [eb] at z; cases z) (by rw [eb] <;> rfl)) q
    | @lst a xs hS hl hi0 =>
      refine ⟨_, pss_one (ps_ret (pe_and (pe_call GL hr (by rfl) gL FL.kp bL .nil pass0 (pa_cons (pv 0) pa_nil)) (pe_one (pe_callB (cr_all rfl) (by rfl) mall (by decide +kernel) (pa_cons
          (pe_lc (own := [("item", 3)]) (g := gName 3) (tt := tYes) rfl nd (pi_list (pv 0)) (blkOk_by (N := ["value", "least", "most", "item"]) (sc := defScope sRow) (by decide +kernel)) (fun _ _ _ _ _ => pg_name (i := 3) nd rfl (Or.inl rfl)) (fun _ _ _ _ _ => pts_nil)
            (fun _ _ _ _ _ => pe_call GW (hr) (by rfl) gW FW.kp bW .nil pass0 (pa_cons (pv 3) (pa_cons (pv 1) (pa_cons (pv 2) pa_nil))))) pa_nil))))), ?_⟩
      refine Evl.s_ret (Evl.ev_is (Evl.ev_andV (isl (.lst hS)) fun _ => ev_allN (bs := xs.map fun v => wi v lo hi) ?_) (congrArg V.bl (eall xs))) q
      rw [← ebs]
      exact Evl.el_lcL (fun _ => true) _ (Evl.ev_var rfl) hS (by omega) (fun _ => rfl) (fun _ _ _ _ _ => et_yes) fun i v H1 e1 hv _ => items e1 hi0 hv
    | @tup a xs hS hl hi0 =>
      refine ⟨_, pss_one (ps_ret (pe_and (pe_call GL hr (by rfl) gL FL.kp bL .nil pass0 (pa_cons (pv 0) pa_nil)) (pe_one (pe_callB (cr_all rfl) (by rfl) mall (by decide +kernel) (pa_cons
          (pe_lc (own := [("item", 3)]) (g := gName 3) (tt := tYes) rfl nd (pi_tup (pv 0)) (blkOk_by (N := ["value", "least", "most", "item"]) (sc := defScope sRow) (by decide +kernel)) (fun _ _ _ _ _ => pg_name (i := 3) nd rfl (Or.inl rfl)) (fun _ _ _ _ _ => pts_nil)
            (fun _ _ _ _ _ => pe_call GW (hr) (by rfl) gW FW.kp bW .nil pass0 (pa_cons (pv 3) (pa_cons (pv 1) (pa_cons (pv 2) pa_nil))))) pa_nil))))), ?_⟩
      refine Evl.s_ret (Evl.ev_is (Evl.ev_andV (isl (.tup hS)) fun _ => ev_allN (bs := xs.map fun v => wi v lo hi) ?_) (congrArg V.bl (eall xs))) q
      rw [← ebs]
      exact el_lcT (fun _ => true) _ (Evl.ev_var rfl) hS (by omega) (fun _ => rfl) (fun _ _ _ _ _ => et_yes) fun i v H1 e1 hv _ => items e1 hi0 hv
end
theorem spv_row {K : PySem.W.Frag} {H : Hp} {x lo hi : V} {r : Bool} (h : RowR K H lo hi x r) (h1 : Bnd lo) (h2 : Bnd hi) : Evl.SpV (spRow K) [x, lo, hi] H (.bl r) := fun H1 e Q q E => ⟨x, lo, hi, r, rfl, h.ex e, h1, h2, q⟩
/-- whether these items are unlike integers from lo on -/
def unV (lo : V) (xs : List V) : Bool := xs.all (fun v => wi v lo .non) && decide xs.Nodup
inductive UnR (K : PySem.W.Frag) (H : Hp) (lo : V) : V → Bool → Prop where
  | no {x : V} {n : String} (h : Ty7 K H x n) (h1 : n ≠ "list") (h2 : n ≠ "tuple") : UnR K H lo x false
  | lst {a : Addr} {xs : List V} (h : SqL K H a xs) (hl : xs.length ≤ 4000) (hi : ∀ v ∈ xs, ∃ n, Ty7 K H v n) : UnR K H lo (.ref a) (unV lo xs)
  | tup {a : Addr} {xs : List V} (h : SqT K H a xs) (hl : xs.length ≤ 4000) (hi : ∀ v ∈ xs, ∃ n, Ty7 K H v n) : UnR K H lo (.ref a) (unV lo xs)
theorem UnR.ex {K : PySem.W.Frag} {H H' : Hp} {lo x : V} {r : Bool} (h : UnR K H lo x r) (e : Evl.Ex H H') : UnR K H' lo x r := by
  cases h with
  | no h h1 h2 => exact .no (h.ex e) h1 h2
  | lst h hl hi => exact .lst (Evl.ex_l e h) hl fun v hv => (hi v hv).imp fun n hn => hn.ex e
  | tup h hl hi => exact .tup (Evl.ex_t e h) hl fun v hv => (hi v hv).imp fun n hn => hn.ex e
def spUn (K : PySem.W.Frag) : Sp := fun vs H Q _ => ∃ (x lo : V) (r : Bool), vs = [x, lo] ∧ UnR K H lo x r ∧ Bnd lo ∧ ∀ H1, Evl.Ex H H1 → Q (.bl r) H1
theorem spv_un {K : PySem.W.Frag} {H : Hp} {x lo : V} {r : Bool} (h : UnR K H lo x r) (h1 : Bnd lo) : Evl.SpV (spUn K) [x, lo] H (.bl r) := fun H1 e Q q E => ⟨x, lo, r, rfl, h.ex e, h1, q⟩
theorem ints_of {lo : V} : ∀ {xs : List V}, xs.all (fun v => wi v lo .non) = true → ∃ ns : List Int, xs = ns.map V.int
  | [], _ => ⟨[], rfl⟩
  | x :: r, h => by
    rw [List.all_cons, Bool.and_eq_true_iff] at h
    obtain ⟨ns, e⟩ := ints_of h.2
    cases x with
    | int i => exact ⟨i :: ns, by rw [e]; rfl⟩
    | _ => exact absurd h.1 (by intro z; cases z)
theorem un_end {xs : List V} {ns : List Int} {c : Nat} (e : xs = ns.map V.int) (hc : c = ns.length ↔ ns.Nodup) : decide (V.int (c : Int) = V.int (xs.length : Int)) = decide xs.Nodup := by
  subst e
  refine decide_eq_decide.mpr ?_
  rw [nodup_int, ← hc, List.length_map]
  exact ⟨fun z => by have := V.int.inj z; omega, fun z => by rw [z]⟩
theorem scUn : FnScope ["value", "least"] ["value", "least"] (defScope sUn) := ⟨rfl, rfl, rfl, by decide +kernel, rfl, by decide +kernel, by decide +kernel⟩
section
variable {P : Program} {w : World} {K : PySem.W.Frag} {mg : Str → Option Value} {base : Heap}
theorem ok_unlike {f fR : Addr} {fd fdR : FuncData} {k : Nat} (F : Fun K "are_unlike" "are_unlike" sUn f fd)
    (FR : Fun K "is_row" "is_row" sRow fR fdR) (GR : FnOk P w K mg base CX0 k fR fdR ["value", "least", "most"] (spRow K)) (bR : Binds K fdR ["value", "least", "most"] []) (gR : mg "is_row" = some (.ref fR))
    (mlen : mg "len" = none) (mset : mg "set" = none) : FnOk P w K mg base CX0 (k + 1) f fd ["value", "least"] (spUn K) := by
  refine F.ok scUn (fun vs H Q E h => ?_) (fun cdv A outer s H vs Q E hr h => ?_)
  · obtain ⟨x, lo, r, rfl, _⟩ := h
    rfl
  · obtain ⟨x, lo, r, rfl, h, hlo, q⟩ := h
    cases h with
    | @no x n h7 h1 h2 =>
      refine ⟨_, pss_one (ps_ret (pe_and (pe_call GR hr (by rfl) gR FR.kp bR .nil pass0 (pa_cons (pv 0) (pa_cons (pv 1) (pa_cons pe_non pa_nil)))) (pe_one (pe_cmpR op_eq (pe_lenSetN (by rfl) mlen (by rfl) mset (pv 0)) (pe_callB call_len_seq (by rfl) mlen PySem.boot_len (pa_cons (pv 0) pa_nil)) (nomark _))))), ?_⟩
      exact Evl.s_ret (Evl.ev_andV (b := false) (Evl.ev_call (Evl.ea_cons (Evl.ev_var rfl) (Evl.ea_cons (Evl.ev_var rfl) (Evl.ea_cons Evl.ev_c Evl.ea_nil))) (spv_row (.no h7 h1 h2) hlo trivial)) fun z => nomatch z) q
    | @lst a xs hS hl hi =>
      refine ⟨_, pss_one (ps_ret (pe_and (pe_call GR hr (by rfl) gR FR.kp bR .nil pass0 (pa_cons (pv 0) (pa_cons (pv 1) (pa_cons pe_non pa_nil)))) (pe_one (pe_cmpR op_eq (pe_lenSetN (by rfl) mlen (by rfl) mset (pv 0)) (pe_callB call_len_seq (by rfl) mlen PySem.boot_len (pa_cons (pv 0) pa_nil)) (nomark _))))), ?_⟩
      refine Evl.s_ret (v := .bl (unV lo xs)) (Evl.ev_andV (Evl.ev_call (Evl.ea_cons (Evl.ev_var rfl) (Evl.ea_cons (Evl.ev_var rfl) (Evl.ea_cons Evl.ev_c Evl.ea_nil))) (spv_row (.lst hS hl hi) hlo trivial)) fun ha H1 e Q' q' => ?_) q
      obtain ⟨ns, en⟩ := ints_of ha
      refine ⟨.ref a, rfl, a, ns, rfl, en ▸ Evl.ex_l e hS, by rw [en, List.length_map] at hl; exact hl, fun c hc => ⟨.ref a, rfl, a, xs, rfl, .inl (Evl.ex_l e hS), rfl, ?_⟩⟩
      rw [un_end en hc]
      exact q' H1 (Evl.Ex.refl _)
    | @tup a xs hS hl hi =>
      refine ⟨_, pss_one (ps_ret (pe_and (pe_call GR hr (by rfl) gR FR.kp bR .nil pass0 (pa_cons (pv 0) (pa_cons (pv 1) (pa_cons pe_non pa_nil)))) (pe_one (pe_cmpR op_eq (pe_lenSetU (by rfl) mlen (by rfl) mset (pv 0)) (pe_callB call_len_seq (by rfl) mlen PySem.boot_len (pa_cons (pv 0) pa_nil)) (nomark _))))), ?_⟩
      refine Evl.s_ret (v := .bl (unV lo xs)) (Evl.ev_andV (Evl.ev_call (Evl.ea_cons (Evl.ev_var rfl) (Evl.ea_cons (Evl.ev_var rfl) (Evl.ea_cons Evl.ev_c Evl.ea_nil))) (spv_row (.tup hS hl hi) hlo trivial)) fun ha H1 e Q' q' => ?_) q
      obtain ⟨ns, en⟩ := ints_of ha
      refine ⟨.ref a, rfl, a, ns, rfl, en ▸ Evl.ex_t e hS, by rw [en, List.length_map] at hl; exact hl, fun c hc => ⟨.ref a, rfl, a, xs, rfl, .inr (Evl.ex_t e hS), rfl, ?_⟩⟩
      rw [un_end en hc]
      exact q' H1 (Evl.Ex.refl _)
theorem LotR.un {H : Hp} {x : V} {r : Bool} (h : LotR K H x r) : UnR K H (.int 1) x r := by
  cases h with
  | no h h1 h2 => exact .no h h1 h2
  | lst h hl hi => exact .lst h hl hi
  | tup h hl hi => exact .tup h hl hi
theorem ok_lot {f fU : Addr} {fd fdU : FuncData} {k : Nat} (F : Fun K "is_lot" "is_lot" sLot f fd) (FU : Fun K "are_unlike" "are_unlike" sUn fU fdU) (GU : FnOk P w K mg base CX0 k fU fdU ["value", "least"] (spUn K)) (bU : Binds K fdU ["value", "least"] []) (gU : mg "are_unlike" = some (.ref fU)) :
    FnOk P w K mg base CX0 (k + 1) f fd ["value"] (spLot K) := by
  refine F.ok scLot (fun vs H Q E h => ?_) (fun cdv A outer s H vs Q E hr h => ?_)
  · obtain ⟨x, r, rfl, _⟩ := h
    rfl
  · obtain ⟨x, r, rfl, h, q⟩ := h
    refine ⟨_, pss_one (ps_ret (pe_call GU hr (by rfl) gU FU.kp bU .nil pass0 (pa_cons (pv 0) (pa_cons pe_int pa_nil)))), ?_⟩
    exact Evl.s_ret (Evl.ev_call (Evl.ea_cons (Evl.ev_var rfl) (Evl.ea_cons Evl.ev_c Evl.ea_nil)) (spv_un h.un trivial)) q
end

def spAny (K : PySem.W.Frag) : Sp := fun vs H Q _ => ∃ (t c : Addr) (n : Nat), vs = [.ref t] ∧ Tub H t c n ∧ n + 10 ≤ 1000000 ∧
  ∀ (v : V) (b : Bool) (m : String) (p : Addr) (H' : Hp), H p = none → Kept t H H' → H' p = some (.tup [v, .bl b]) → (∀ H2, Kept t H' H2 → Ty7 K H2 v m) → b = decide (m = "int") → Tub H' t c (n + 4) → Q (.ref p) H'
theorem Kept.none {t p : Addr} {H H' : Hp} (k : Kept t H H') (n : p ≠ t) (h : H' p = none) : H p = none := by
  cases hq : H p with
  | none => rfl
  | some o =>
    rw [k _ _ n hq] at h
    cases h
section
variable {P : Program} {w : World} {K : PySem.W.Frag} {mg : Str → Option Value} {base : Heap}
theorem ok_any {f fS fP : Addr} {fd fdS fdP : FuncData} {k : Nat} (F : Fun K "_law_any" "_law_any" sAny f fd)
    (FS : Fun K "_law_scoop" "_law_scoop" sScoop fS fdS) (GS : FnOk P w K mg base CX0 k fS fdS ["tub", "many"] spScoop) (bS : Binds K fdS ["tub", "many"] []) (gS : mg "_law_scoop" = some (.ref fS))
    (FP : Fun K "_law_pick" "_law_pick" sPick fP fdP) (GP : FnOk P w K mg base CX0 k fP fdP ["tub", "some"] (spPick K)) (bP : Binds K fdP ["tub", "some"] []) (gP : mg "_law_pick" = some (.ref fP)) :
    FnOk P w K mg base CX0 (k + 1) f fd ["tub"] (spAny K) := by
  refine F.ok scAny (fun vs H Q E h => ?_) (fun cdv A outer s H vs Q E hr h => ?_)
  · obtain ⟨t, c, n, rfl, _⟩ := h
    rfl
  · obtain ⟨t, c, n, rfl, hT, hn, q⟩ := h
    have nd := scAny.nd
    refine ⟨_, pss_cons (ps_set (i := 1) nd rfl (.inl rfl) (pe_call GP hr (by rfl) gP FP.kp bP .nil pass0 (pa_cons (pv 0) (pa_cons (pe_lst (pa_cons pe_int (pa_cons pe_int (pa_cons (pe_un un_neg pe_int) (pa_cons (pe_call GS hr (by rfl) gS FS.kp bS .nil pass0 (pa_cons (pv 0) (pa_cons pe_int pa_nil)))
        (pa_cons pe_int (pa_cons pe_int (pa_cons (pe_un un_neg pe_int) (pa_cons (pe_op op_pow pe_int pe_int) pa_nil))))))))) pa_nil))))
      (pss_cons (ps_set (i := 2) nd rfl (.inl rfl) (pe_call GP hr (by rfl) gP FP.kp bP .nil pass0 (pa_cons (pv 0) (pa_cons (pe_lst (pa_cons pe_non (pa_cons pe_bl (pa_cons pe_bl (pa_cons pe_str (pa_cons (pe_tup (pa_cons pe_int pa_nil)) (pa_cons (pe_lst (pa_cons pe_int pa_nil)) (pa_cons pe_dnewK pa_nil)))))))) pa_nil))))
      (pss_one (ps_ret (pe_ifExp (pt_cmpR op_gt (pe_call GS hr (by rfl) gS FS.kp bS .nil pass0 (pa_cons (pv 0) (pa_cons pe_int pa_nil))) pe_int (nomark _)) (pe_tup (pa_cons (pv 1) (pa_cons pe_bl pa_nil))) (pe_tup (pa_cons (pv 2) (pa_cons pe_bl pa_nil))))))), ?_⟩
    -- number
    refine ⟨.ref t, rfl, 1, rfl, .ref t, rfl, t, c, 30, n, rfl, hT, by omega, by decide, by decide, fun r H1 r0 r1 k1 T1 => ⟨60, rfl, 10, 30, rfl, rfl, ⟨by decide, by decide, by decide⟩, (by show 8 ≤ sizeLine; decide), fun l hl => ?_⟩⟩
    obtain ⟨lt, lc⟩ := T1.ne hl
    refine ⟨t, c, l, _, n + 1, rfl, T1.same (same_new hl), by omega, lt, .inl (.inl upd_same), by show 1 ≤ 8; omega, by show 8 ≤ 10000; omega, fun j v H2 hj k2 T2 => ?_⟩
    have hv : ∃ i, v = .int i := by
      have hm := List.mem_of_getElem? hj
      simp only [List.mem_cons, List.not_mem_nil, or_false] at hm
      rcases hm with e | e | e | e | e | e | e | e <;> exact ⟨_, e⟩
    obtain ⟨i, rfl⟩ := hv
    have kA : Kept t H H2 := (k1.trans (kept_ex (Evl.Ex.new hl))).trans k2
    clear k1 k2 T1 hj
    -- odd
    refine ⟨.ref t, rfl, (by show 1 ≤ sizeLine; decide), fun p1 n1 => ⟨(by show 1 ≤ sizeLine; decide), fun p2 n2 p3 n3 => ⟨(by show 7 ≤ sizeLine; decide), fun l2 nl2 => ?_⟩⟩⟩
    have e1 := Evl.Ex.new (o := .tup [.int 1]) n1
    have e2 := Evl.Ex.new (o := .lst [.int 0]) n2
    have e3 := Evl.Ex.new (o := .dK []) n3
    have e4 := Evl.Ex.new (o := .lst [.non, .bl true, .bl false, .str "1", .ref p1, .ref p2, .ref p3]) nl2
    have T3 := ((T2.ex e1).ex e2).ex e3
    have h1 : (upd (upd (upd H2 p1 (.tup [.int 1])) p2 (.lst [.int 0])) p3 (.dK [])) p1 = some (.tup [.int 1]) := e3 _ _ (e2 _ _ upd_same)
    have h2 : (upd (upd (upd H2 p1 (.tup [.int 1])) p2 (.lst [.int 0])) p3 (.dK [])) p2 = some (.lst [.int 0]) := e3 _ _ upd_same
    have h3 : (upd (upd (upd H2 p1 (.tup [.int 1])) p2 (.lst [.int 0])) p3 (.dK [])) p3 = some (.dK []) := upd_same
    have kB : Kept t H (upd (upd (upd H2 p1 (.tup [.int 1])) p2 (.lst [.int 0])) p3 (.dK [])) := ((kA.trans (kept_ex e1)).trans (kept_ex e2)).trans (kept_ex e3)
    obtain ⟨p1t, _⟩ := T2.ne n1
    obtain ⟨p2t, _⟩ := (T2.ex e1).ne n2
    obtain ⟨p3t, _⟩ := ((T2.ex e1).ex e2).ne n3
    obtain ⟨l2t, _⟩ := T3.ne nl2
    generalize upd (upd (upd H2 p1 (.tup [.int 1])) p2 (.lst [.int 0])) p3 (.dK []) = H3 at *
    refine ⟨t, c, l2, _, n + 1 + 1, rfl, T3.ex e4, by omega, l2t, .inl (.inl upd_same), by show 1 ≤ 7; omega, by show 7 ≤ 10000; omega, fun j v H4 hj k4 T4 => ?_⟩
    have k34 : Kept t H3 H4 := (kept_ex e4).trans k4
    have hv : ∃ m, (∀ H5, Kept t H3 H5 → Ty7 K H5 v m) ∧ m ≠ "int" := by
      have hm := List.mem_of_getElem? hj
      simp only [List.mem_cons, List.not_mem_nil, or_false] at hm
      rcases hm with e | e | e | e | e | e | e <;> subst e
      · exact ⟨_, fun _ _ => .non, by decide⟩
      · exact ⟨_, fun _ _ => .bl _, by decide⟩
      · exact ⟨_, fun _ _ => .bl _, by decide⟩
      · exact ⟨_, fun _ _ => .str _, by decide⟩
      · exact ⟨_, fun _ k => .tup (.inl (.inl (k _ _ p1t h1))), by decide⟩
      · exact ⟨_, fun _ k => .lst (.inl (.inl (k _ _ p2t h2))), by decide⟩
      · exact ⟨_, fun _ k => .dK (k _ _ p3t h3), by decide⟩
    obtain ⟨m, hv, hm⟩ := hv
    -- the answer
    refine ⟨.ref t, rfl, t, c, 3, n + 1 + 1 + 1, rfl, T4, by omega, by decide, by decide, fun r H5 r0 r1 k5 T5 => ⟨r, 0, rfl, rfl, _, rfl, ?_⟩⟩
    have kC : Kept t H H5 := (kB.trans k34).trans k5
    refine ite2 (fun _ => ⟨_, rfl, (by show 2 ≤ sizeLine; decide), fun p hp => ?_⟩) (fun _ => ⟨_, rfl, (by show 2 ≤ sizeLine; decide), fun p hp => ?_⟩)
    · exact q (.int i) true "int" p _ (kC.none (T5.ne hp).1 hp) (kC.trans (kept_ex (Evl.Ex.new hp))) upd_same (fun _ _ => .int i) rfl (T5.ex (Evl.Ex.new hp))
    · exact q v false m p _ (kC.none (T5.ne hp).1 hp) (kC.trans (kept_ex (Evl.Ex.new hp))) upd_same (fun H6 k6 => hv H6 (((k34.trans k5).trans (kept_ex (Evl.Ex.new hp))).trans k6)) (by rw [decide_eq_false hm]) (T5.ex (Evl.Ex.new hp))
end

theorem Ty7.int_of {K : PySem.W.Frag} {H : Hp} {v : V} {m : String} (h : Ty7 K H v m) (e : m = "int") : ∃ j, v = .int j := by
  cases h <;> first | exact ⟨_, rfl⟩ | exact absurd e (by decide)
/-! ### lists of ints without twins, by a dict -/
theorem merge_ints : ∀ (ns ms : List Int), ms.Nodup → ∃ rs : List Int, mergeK (ms.map fun x => ((Sum.inl x : L2.Key), V.bl true)) (ns.map fun x => ((Sum.inl x : L2.Key), V.bl true)) = rs.map (fun x => ((Sum.inl x : L2.Key), V.bl true)) ∧ rs.Nodup ∧ (∀ x, x ∈ rs → x ∈ ms ∨ x ∈ ns) ∧ rs.length ≤ ms.length + ns.length
  | [], ms, hn => ⟨ms, rfl, hn, fun _ h => .inl h, Nat.le_refl _⟩
  | y :: r, ms, hn => by
    show ∃ rs : List Int, mergeK (putK (ms.map fun x => ((Sum.inl x : L2.Key), V.bl true)) (Sum.inl y) (V.bl true)) (r.map fun x => ((Sum.inl x : L2.Key), V.bl true)) = _ ∧ _
    have hany : ((ms.map fun x => ((Sum.inl x : L2.Key), V.bl true)).any fun kv => decide (kv.1 = (Sum.inl y : L2.Key))) = true ↔ y ∈ ms := by
      rw [List.any_map, List.any_eq_true]
      constructor
      · intro ⟨x, hx, e⟩
        have e2 : (Sum.inl x : L2.Key) = Sum.inl y := of_decide_eq_true e
        exact Sum.inl.inj e2 ▸ hx
      · intro h
        exact ⟨y, h, decide_eq_true rfl⟩
    by_cases hy : y ∈ ms
    · have e : putK (ms.map fun x => ((Sum.inl x : L2.Key), V.bl true)) (Sum.inl y) (V.bl true) = ms.map fun x => ((Sum.inl x : L2.Key), V.bl true) := by
        unfold putK
        rw [if_pos (hany.mpr hy), List.map_map]
        refine List.map_congr_left fun x _ => ?_
        show (if (Sum.inl x : L2.Key) = Sum.inl y then ((Sum.inl x : L2.Key), V.bl true) else (Sum.inl x, V.bl true)) = _
        split <;> rfl
      rw [e]
      obtain ⟨rs, h1, h2, h3, h4⟩ := merge_ints r ms hn
      exact ⟨rs, h1, h2, fun x hx => (h3 x hx).imp id (List.mem_cons_of_mem _), by rw [List.length_cons]; omega⟩
    · have e : putK (ms.map fun x => ((Sum.inl x : L2.Key), V.bl true)) (Sum.inl y) (V.bl true) = (ms ++ [y]).map fun x => ((Sum.inl x : L2.Key), V.bl true) := by
        unfold putK
        rw [if_neg (fun z => hy (hany.mp z)), List.map_append]
        rfl
      rw [e]
      obtain ⟨rs, h1, h2, h3, h4⟩ := merge_ints r (ms ++ [y]) (by
        rw [List.nodup_append]
        exact ⟨hn, by simp, fun a ha b hb => by
          rw [List.mem_singleton.mp hb]
          exact fun z => hy (z ▸ ha)⟩)
      refine ⟨rs, h1, h2, fun x hx => ?_, by rw [List.length_append, List.length_singleton] at h4; rw [List.length_cons]; omega⟩
      rcases h3 x hx with h | h
      · rcases List.mem_append.mp h with h | h
        · exact .inl h
        · exact .inr (List.mem_singleton.mp h ▸ List.mem_cons_self)
      · exact .inr (List.mem_cons_of_mem _ h)
/-! ### values that are no lots, whatever happens to the drawer -/
def Bad (K : PySem.W.Frag) (t : Addr) (H : Hp) (v : V) : Prop := ∀ H', Kept t H H' → LotR K H' v false
theorem Bad.mono {K : PySem.W.Frag} {t : Addr} {H H' : Hp} {v : V} (b : Bad K t H v) (k : Kept t H H') : Bad K t H' v := fun H2 k2 => b H2 (k.trans k2)
theorem Bad.ex {K : PySem.W.Frag} {t : Addr} {H H' : Hp} {v : V} (b : Bad K t H v) (e : Evl.Ex H H') : Bad K t H' v := b.mono (kept_ex e)
/-- an item with a type that lasts -/
def Lasts (K : PySem.W.Frag) (t : Addr) (H : Hp) (v : V) : Prop := ∃ n, ∀ H', Kept t H H' → Ty7 K H' v n
theorem bad_l {K : PySem.W.Frag} {t p : Addr} {H : Hp} {xs : List V} (hp : p ≠ t) (h : H p = some (.lst xs)) (hl : xs.length ≤ 4000) (hi : ∀ v ∈ xs, Lasts K t H v) (hf : lotV xs = false) : Bad K t H (.ref p) := fun H' k => by
  have e := LotR.lst (K := K) (H := H') (a := p) (xs := xs) (.inl (.inl (k _ _ hp h))) hl fun v hv => (hi v hv).imp fun n hn => hn H' k
  rwa [hf] at e
theorem bad_t {K : PySem.W.Frag} {t p : Addr} {H : Hp} {xs : List V} (hp : p ≠ t) (h : H p = some (.tup xs)) (hl : xs.length ≤ 4000) (hi : ∀ v ∈ xs, Lasts K t H v) (hf : lotV xs = false) : Bad K t H (.ref p) := fun H' k => by
  have e := LotR.tup (K := K) (H := H') (a := p) (xs := xs) (.inl (.inl (k _ _ hp h))) hl fun v hv => (hi v hv).imp fun n hn => hn H' k
  rwa [hf] at e
/-- it evaluates to such a value -/
def Nl (K : PySem.W.Frag) (t : Addr) (te : TE) (σ : L2.St) (H : Hp) : Prop := ∀ H1, Evl.Ex H H1 → ∀ Q : VK, (∀ v H2, Evl.Ex H1 H2 → Bad K t H2 v → Q v H2) → te σ H1 Q
def NlA (K : PySem.W.Frag) (t : Addr) (ta : TA) (σ : L2.St) (H : Hp) (n : Nat) : Prop := ∀ H1, Evl.Ex H H1 → ∀ Q : List V → Hp → Prop, (∀ vs H2, Evl.Ex H1 H2 → vs.length = n → (∀ v ∈ vs, Bad K t H2 v) → Q vs H2) → ta σ H1 Q
section
variable {K : PySem.W.Frag} {t : Addr} {σ : L2.St} {H : Hp} {ta tb te : TE} {tr : TA}
theorem na_nil : NlA K t tNil σ H 0 := fun H1 _ _ q => q [] H1 (Evl.Ex.refl H1) rfl fun _ h => (nomatch h)
theorem na_cons {n : Nat} (h : Nl K t te σ H) (hr : NlA K t tr σ H n) : NlA K t (tCons te tr) σ H (n + 1) := fun H1 e Q q =>
  h H1 e _ fun v H2 e2 b => hr H2 (e.trans e2) _ fun vs H3 e3 hl bs => q (v :: vs) H3 (e2.trans e3) (congrArg Nat.succ hl) fun u hu => by
    rcases List.mem_cons.mp hu with z | z
    · rw [z]
      exact b.ex e3
    · exact bs u z
theorem nl_v {v : V} (h : Evl.Ev te σ H v) (b : Bad K t H v) : Nl K t te σ H := fun H1 e Q q => h H1 e Q fun H2 e2 => q v H2 e2 (b.ex (e.trans e2))
theorem nl_l {xs : List V} {o : HO} (ht : H t = some o) (h : Evl.EvL te σ H xs) (hl : xs.length ≤ 4000) (hi : ∀ v ∈ xs, Lasts K t H v) (hf : lotV xs = false) : Nl K t te σ H := fun H1 e Q q =>
  h H1 e Q fun p H2 hp e2 h2 => q _ H2 e2 (bad_l (ne_of_none (e _ _ ht) hp).symm h2 hl (fun v hv => (hi v hv).imp fun n hn H' k => hn H' ((kept_ex (e.trans e2)).trans k)) hf)
theorem nl_if {c : TT} {b : Bool} (h : Evl.EvT c σ H b) (h1 : b = true → Nl K t ta σ H) (h2 : b = false → Nl K t tb σ H) : Nl K t (tIf c ta tb) σ H := fun H1 e Q q => h H1 e _ fun H2 e2 => by
  cases b with
  | true =>
    show ta σ H2 Q
    exact h1 rfl H2 (e.trans e2) Q fun v H3 e3 => q v H3 (e2.trans e3)
  | false =>
    show tb σ H2 Q
    exact h2 rfl H2 (e.trans e2) Q fun v H3 e3 => q v H3 (e2.trans e3)
theorem el_cat {l : Addr} {xs ys : List V} (ha : Evl.Ev ta σ H (.ref l)) (h : H l = some (.lst xs)) (hb : Evl.EvL tb σ H ys) (hz : xs.length + ys.length ≤ 100000) : Evl.EvL (tOp rCat ta tb) σ H (xs ++ ys) := fun H1 e Q q =>
  ha H1 e _ fun H2 e2 => hb H2 (e.trans e2) _ fun p H3 _ e3 h3 => ⟨l, p, xs, ys, rfl, rfl, e3 _ _ (e2 _ _ (e _ _ h)), h3, Evl.sz_of hz, fun r hr => q r _ (Evl.fresh_back (e2.trans e3) hr) ((e2.trans e3).trans (Evl.Ex.new hr)) upd_same⟩
theorem el_catR {l : Addr} {xs ys : List V} (ha : Evl.EvL ta σ H xs) (hb : Evl.Ev tb σ H (.ref l)) (h : H l = some (.lst ys)) (hz : xs.length + ys.length ≤ 100000) : Evl.EvL (tOp rCat ta tb) σ H (xs ++ ys) := fun H1 e Q q =>
  ha H1 e _ fun p H2 _ e2 h2 => hb H2 (e.trans e2) _ fun H3 e3 => ⟨p, l, xs, ys, rfl, rfl, e3 _ _ h2, e3 _ _ (e2 _ _ (e _ _ h)), Evl.sz_of hz, fun r hr => q r _ (Evl.fresh_back (e2.trans e3) hr) ((e2.trans e3).trans (Evl.Ex.new hr)) upd_same⟩
theorem el_catLL {xs ys : List V} (ha : Evl.EvL ta σ H xs) (hb : Evl.EvL tb σ H ys) (hz : xs.length + ys.length ≤ 100000) : Evl.EvL (tOp rCat ta tb) σ H (xs ++ ys) := fun H1 e Q q =>
  ha H1 e _ fun p H2 _ e2 h2 => hb H2 (e.trans e2) _ fun p2 H3 _ e3 h3 => ⟨p, p2, xs, ys, rfl, rfl, e3 _ _ h2, h3, Evl.sz_of hz, fun r hr => q r _ (Evl.fresh_back (e2.trans e3) hr) ((e2.trans e3).trans (Evl.Ex.new hr)) upd_same⟩
theorem last_int (i : Int) : Lasts K t H (.int i) := ⟨_, fun _ _ => .int i⟩
theorem last_ints {ns : List Int} : ∀ v ∈ ns.map V.int, Lasts K t H v := fun v hv => by
  obtain ⟨i, _, rfl⟩ := List.mem_map.mp hv
  exact last_int i
theorem lot_no {xs : List V} {v : V} (hv : v ∈ xs) (h : wi v (.int 1) .non = false) : lotV xs = false := by
  unfold lotV
  cases hq : xs.all (fun v => wi v (.int 1) .non) with
  | false => rfl
  | true =>
    have := List.all_eq_true.mp hq v hv
    rw [h] at this
    cases this
theorem lot_twice {xs : List V} (h : ¬ xs.Nodup) : lotV xs = false := by
  unfold lotV
  rw [decide_eq_false h, Bool.and_false]
theorem lot_yes {ns : List Int} (h1 : ∀ x ∈ ns, 1 ≤ x) (h2 : ns.Nodup) : lotV (ns.map V.int) = true := by
  unfold lotV
  rw [decide_eq_true ((nodup_int ns).mpr h2), Bool.and_true, List.all_eq_true]
  intro v hv
  obtain ⟨i, hi, rfl⟩ := List.mem_map.mp hv
  show (decide (1 ≤ i) && true) = true
  rw [decide_eq_true (h1 i hi)]
  rfl
theorem cut1 (xs : List V) : cutV xs none (some 1) = xs.take 1 := by
  unfold cutV
  rw [HT.sIx_none, show HT.sIx xs.length xs.length (some 1) = min 1 xs.length from HT.sIx_nat _ _ 1, List.drop_zero, Nat.sub_zero]
  by_cases h : 1 ≤ xs.length
  · rw [Nat.min_eq_left h]
  · rw [Nat.min_eq_right (by omega), List.take_length, List.take_of_length_le (by omega)]
end

theorem paired_of {α β : Type} {R : α → β → Prop} : ∀ {as : List α} {bs : List β}, as.length = bs.length → (∀ (k : Nat) (a : α) (b : β), as[k]? = some a → bs[k]? = some b → R a b) → Paired R as bs
  | [], [], _, _ => .nil
  | [], _ :: _, h, _ => by cases h
  | _ :: _, [], h, _ => by cases h
  | a :: as, b :: bs, h, r => .cons (r 0 a b rfl rfl) (paired_of (Nat.succ.inj h) fun k x y hx hy => r (k + 1) x y hx hy)
section
variable {K : PySem.W.Frag} {t l : Addr} {σ : L2.St} {H : Hp} {o : HO} {ns : List Int} {j : Nat}
theorem lot_add {ns : List Int} {v : V} (h : wi v (.int 1) .non = false) : lotV (ns.map V.int ++ [v]) = false := lot_no (v := v) (List.mem_append_right _ List.mem_cons_self) h
theorem lot_pre {ns : List Int} {v : V} (h : wi v (.int 1) .non = false) : lotV ([v] ++ ns.map V.int) = false := lot_no (v := v) (List.mem_append_left _ List.mem_cons_self) h
/-- a dict that is written with one pair -/
theorem nl_dict (ht : H t = some o) : Nl K t (tDisp [(tC (.int 1), tC (.int 1))]) σ H := fun H1 e Q q p hp => by
  refine ⟨upd_same, [(.inl 1, .int 1)], rfl, by decide, q _ _ (Evl.Ex.mut (Evl.Ex.new hp) hp) fun H' k => ?_⟩
  have hpt : p ≠ t := (ne_of_none (e _ _ ht) hp).symm
  exact .no (.dK (k _ _ hpt upd_same)) (by decide) (by decide)
/-- the lot within a new tuple -/
theorem nl_tup {i : Nat} (ht : H t = some o) (hl : H l = some (.lst (ns.map V.int))) (hs : σ[i]? = some (some (.ref l))) :
    Nl K t (tTup (tCons (tCB (fun xs H Q => ∃ p ys, xs = [V.ref p] ∧ ((SqL K H p ys ∧ ∀ l, H l = none → Q (V.ref l) (upd H l (HO.tup ys))) ∨ (SqT K H p ys ∧ Q (V.ref p) H))) (tCons (tVar i) tNil)) tNil)) σ H := fun H1 e Q q => by
  refine ⟨.ref l, hs, l, _, rfl, .inl ⟨Evl.sq_of (e _ _ hl), fun p hp => ⟨(by show 1 ≤ sizeLine; decide), fun p2 hp2 => ?_⟩⟩⟩
  have hpt : p ≠ t := (ne_of_none (e _ _ ht) hp).symm
  have e2 := Evl.Ex.new (o := .tup (ns.map V.int)) hp
  have hp2t : p2 ≠ t := (ne_of_none (e2 _ _ (e _ _ ht)) hp2).symm
  have e3 := Evl.Ex.new (o := .tup [.ref p]) hp2
  refine q _ _ (e2.trans e3) (bad_t hp2t upd_same (by show 1 ≤ 4000; omega) (fun v hv => ?_) (lot_no (v := .ref p) List.mem_cons_self rfl))
  rw [List.mem_singleton.mp hv]
  exact ⟨"tuple", fun H' k => .tup (.inl (.inl (k _ _ hpt (e3 _ _ upd_same))))⟩
/-- new lists of one item each, and a new empty one -/
theorem nl_lists {i j : Nat} {vs : List Nat} (ht : H t = some o) (hl : H l = some (.lst (ns.map V.int))) (hz : ns.length ≤ 100) (hs : σ[i]? = some (some (.ref l))) (hj : ∀ x, ((wipe σ vs).set j (some x))[j]? = some (some x)) (hw : ∀ x, wipe ((wipe σ vs).set j (some x)) vs = wipe σ vs) :
    Nl K t (tOp rCat (tLc (iList K (tVar i)) (gName j) tYes (tLst (tCons (tVar j) tNil)) vs) (tLst (tCons (tLst tNil) tNil))) σ H := fun H1 e Q q => by
  refine ⟨.ref l, hs, l, rfl, ⟨_, Evl.sq_of (e _ _ hl)⟩, fun Dl hD => ?_⟩
  refine lc_list (xs := ns.map V.int) (fun m H' => ∃ ps : List Addr, H' Dl = some (.lst (ps.map V.ref)) ∧ ps.length = m ∧ Evl.Ex H1 H' ∧ ∀ p ∈ ps, p ≠ t ∧ p ≠ Dl ∧ ∃ ys, H' p = some (.lst ys)) ?_ ?_ ?_ ?_
  · exact ⟨[], upd_same, rfl, Evl.Ex.new hD, fun _ h => (nomatch h)⟩
  · rintro m H' _ ⟨ps, _, _, e2, _⟩
    exact Evl.sq_of (e2 _ _ (e _ _ hl))
  · rintro m x H' hx ⟨ps, h1, h2, e2, h4⟩
    have hm : m < ns.length := by
      have := (List.getElem?_eq_some_iff.mp hx).1
      rwa [List.length_map] at this
    refine ⟨hw x, ?_⟩
    refine ⟨x, hj x, (by show 1 ≤ sizeLine; decide), fun p hp => ⟨ps.map V.ref, ?_, ?_, ?_⟩⟩
    · exact Evl.Ex.new hp _ _ h1
    · rw [List.length_map, h2]
      exact Nat.lt_of_le_of_lt (by omega : m ≤ 1000) (by decide)
    · have hpt : p ≠ t := (ne_of_none (e2 _ _ (e _ _ ht)) hp).symm
      have hpD : p ≠ Dl := (ne_of_none h1 hp).symm
      have e3 : Evl.Ex H' (upd H' p (.lst [x])) := Evl.Ex.new hp
      refine ⟨ps ++ [p], ?_, by rw [List.length_append, h2]; rfl, Evl.Ex.mut (e2.trans e3) hD, fun u hu => ?_⟩
      · rw [upd_same, List.map_append]
        rfl
      · rcases List.mem_append.mp hu with h | h
        · obtain ⟨a1, a2, ys, a3⟩ := h4 u h
          refine ⟨a1, a2, ys, ?_⟩
          rw [upd_ne a2]
          exact e3 _ _ a3
        · rw [List.mem_singleton.mp h]
          refine ⟨hpt, hpD, [x], ?_⟩
          rw [upd_ne hpD, upd_same]
  · rintro H' ⟨ps, h1, h2, e2, h4⟩
    rw [List.length_map] at h2
    refine ⟨Nat.zero_le _, fun p1 hp1 => ⟨(by show 1 ≤ sizeLine; decide), fun p2 hp2 => ?_⟩⟩
    have e3 : Evl.Ex H' (upd H' p1 (.lst [])) := Evl.Ex.new hp1
    have e4 : Evl.Ex (upd H' p1 (.lst [])) (upd (upd H' p1 (.lst [])) p2 (.lst [.ref p1])) := Evl.Ex.new hp2
    have p1t : p1 ≠ t := (ne_of_none (e2 _ _ (e _ _ ht)) hp1).symm
    refine ⟨Dl, p2, ps.map V.ref, [.ref p1], rfl, rfl, e4 _ _ (e3 _ _ h1), upd_same, ?_, fun r hr => ?_⟩
    · rw [List.length_map, h2]
      exact Nat.le_trans (by show ns.length + 1 ≤ 1000; omega) (by decide : 1000 ≤ sizeLine)
    · have e5 := Evl.Ex.new (o := .lst (ps.map V.ref ++ [.ref p1])) hr
      have rt : r ≠ t := (ne_of_none (e4 _ _ (e3 _ _ (e2 _ _ (e _ _ ht)))) hr).symm
      refine q _ _ (((e2.trans e3).trans e4).trans e5) (bad_l rt upd_same ?_ (fun v hv => ?_) (lot_no (v := .ref p1) (List.mem_append_right _ List.mem_cons_self) rfl))
      · rw [List.length_append, List.length_map, h2]
        show ns.length + 1 ≤ 4000
        omega
      · rcases List.mem_append.mp hv with h | h
        · obtain ⟨p, hp, rfl⟩ := List.mem_map.mp h
          obtain ⟨a1, a2, ys, a3⟩ := h4 p hp
          exact ⟨"list", fun H2 k => .lst (Evl.sq_of (k _ _ a1 (e5 _ _ (e4 _ _ (e3 _ _ a3)))))⟩
        · rw [List.mem_singleton.mp h]
          exact ⟨"list", fun H2 k => .lst (Evl.sq_of (k _ _ p1t (e5 _ _ (e4 _ _ upd_same))))⟩
theorem set_lst {ta : TA} {i n : Nat} {D : Ends} (h : NlA K t ta σ H n) (k : ∀ (vs : List V) (H2 : Hp), Evl.Ex H H2 → vs.length = n → (∀ v ∈ vs, Bad K t H2 v) → vs.length ≤ sizeLine ∧ ∀ p, H2 p = none → D.nx (σ.set i (some (.ref p))) (upd H2 p (.lst vs))) : tAsg (tLst ta) (gName i) D σ H := h H (Evl.Ex.refl H) _ k
/-- a list that stands and a new one of such values, put together -/
theorem set_cat {ta : TA} {i j n : Nat} {D : Ends} {B : Addr} {us : List V} (hs : σ[i]? = some (some (.ref B))) (hB : H B = some (.lst us)) (hu : us.length + n ≤ 100000) (h : NlA K t ta σ H n)
    (k : ∀ (vs : List V) (H2 : Hp) (p : Addr), Evl.Ex H H2 → H2 p = some (.lst (us ++ vs)) → H p = none → vs.length = n → (∀ v ∈ vs, Bad K t H2 v) → D.nx (σ.set j (some (.ref p))) H2) : tAsg (tOp rCat (tVar i) (tLst ta)) (gName j) D σ H := by
  refine ⟨.ref B, hs, h H (Evl.Ex.refl H) _ fun vs H2 e2 hl bs => ⟨?_, fun p hp => ?_⟩⟩
  · rw [hl]
    exact Evl.sz_of (by omega)
  · have e3 := Evl.Ex.new (o := .lst vs) hp
    refine ⟨B, p, us, vs, rfl, rfl, e3 _ _ (e2 _ _ hB), upd_same, Evl.sz_of (by omega), fun q hq => ?_⟩
    have e4 := Evl.Ex.new (o := .lst (us ++ vs)) hq
    exact k vs _ q ((e2.trans e3).trans e4) upd_same (Evl.fresh_back (e2.trans e3) hq) hl fun v hv => ((bs v hv).ex e3).ex e4
theorem last_app {xs ys : List V} (h1 : ∀ v ∈ xs, Lasts K t H v) (h2 : ∀ v ∈ ys, Lasts K t H v) : ∀ v ∈ xs ++ ys, Lasts K t H v := fun v hv => (List.mem_append.mp hv).elim (h1 v) (h2 v)
theorem last_one {v : V} (h : Lasts K t H v) : ∀ u ∈ [v], Lasts K t H u := fun u hu => by
  rw [List.mem_singleton.mp hu]
  exact h
theorem ev_str {ta : TE} {i : Int} (h : Evl.Ev ta σ H (.int i)) (hz : i.natAbs.log2 < 1920) : Evl.Ev (tCB (fun xs H Q => ∃ i, xs = [V.int i] ∧ i.natAbs.log2 < 1920 ∧ Q (V.str (toString i)) H) (tCons ta tNil)) σ H (.str (toString i)) :=
  Evl.ev_cb (Evl.ea_cons h Evl.ea_nil) fun H1 _ _ q => ⟨i, rfl, hz, q H1 (Evl.Ex.refl H1)⟩
theorem log_small {i : Int} (h0 : 1 ≤ i) (h1 : i ≤ 2000) : i.natAbs.log2 < 1920 := by
  have h : i.natAbs < 2 ^ 11 := by omega
  have h2 : i.natAbs.log2 < 11 := (Nat.log2_lt (by omega)).mpr h
  omega
end

theorem scLaw : FnScope ["script", "tub", "turn", "value", "whole", "least", "most", "due", "many", "lot", "kept", "bent", "number", "each"] ["script"] (defScope sLaw) := ⟨rfl, rfl, rfl, by decide +kernel, rfl, by decide +kernel, by decide +kernel⟩
def spLaw (K : PySem.W.Frag) : Sp := fun vs H Q _ => ∃ (a : Addr) (ns : List Int), vs = [.ref a] ∧ SqL K H a (ns.map V.int) ∧ ns.length ≤ 63 ∧ ∀ H', Q (.bl true) H'
def perm3 {α : Type} : List α → List α → List α
  | _, [m, v, l] => [v, l, m]
  | _, _ => []
def just1 {α : Type} : List α → List α → List α := fun _ ws => ws
section
open Evl
variable {K : PySem.W.Frag} {σ : L2.St} {H : Hp}
theorem ev_lo {p x : Nat} {lo : V} {i : Int} (hp : σ[p]? = some (some lo)) (hx : σ[x]? = some (some (.int i))) (hb : Bnd lo) : Ev (tOrV (tOp (fun x y H Q => y = .non ∧ Q (.bl (decide (x = .non))) H) (tVar p) (tC .non)) (tOp (rI0 fun i j => V.bl (decide (j ≤ i))) (tVar x) (tVar p))) σ H (.bl (okLo lo i)) := by
  cases lo with
  | non => exact ev_is (ev_orV (b := true) (ev_op (ev_var hp) ev_c rv_isN) fun z => absurd z (by decide)) rfl
  | int j => exact ev_is (ev_orV (ev_op (ev_var hp) ev_c rv_isN) fun _ => ev_op (ev_var hx) (ev_var hp) rv_I0) (by rw [show decide (V.int j = V.non) = false from rfl] <;> rfl)
  | _ => exact hb.elim
theorem ev_hi {p x : Nat} {hi : V} {i : Int} (hp : σ[p]? = some (some hi)) (hx : σ[x]? = some (some (.int i))) (hb : Bnd hi) : Ev (tOrV (tOp (fun x y H Q => y = .non ∧ Q (.bl (decide (x = .non))) H) (tVar p) (tC .non)) (tOp (rI0 fun i j => V.bl (decide (i ≤ j))) (tVar x) (tVar p))) σ H (.bl (okHi hi i)) := by
  cases hi with
  | non => exact ev_is (ev_orV (b := true) (ev_op (ev_var hp) ev_c rv_isN) fun z => absurd z (by decide)) rfl
  | int j => exact ev_is (ev_orV (ev_op (ev_var hp) ev_c rv_isN) fun _ => ev_op (ev_var hx) (ev_var hp) rv_I0) (by rw [show decide (V.int j = V.non) = false from rfl] <;> rfl)
  | _ => exact hb.elim
theorem ev_callNU {sp : Sp} {gV : List V → List V → List V} {E : XK} {ta : TE} {xs : List V} {z : V} (h : EvU ta σ H xs) (hs : ∀ p H1, H1 p = some (.tup xs) → Ex H H1 → SpV sp (gV [] [.ref p]) H1 z) : Ev (tCallN 0 1 sp gV E tNil (tCons ta tNil)) σ H z := fun H1 e Q q =>
  h H1 e _ fun p H2 _ e2 h2 => ⟨rfl, rfl, hs p H2 h2 (e.trans e2) H2 (Ex.refl H2) Q (fun H3 e3 => q H3 (e2.trans e3)) E⟩
theorem eu_tuple {ta : TE} {l : Addr} {xs : List V} (h : Ev ta σ H (.ref l)) (hl : SqL K H l xs) : EvU (tCB (fun xs H Q => ∃ p ys, xs = [V.ref p] ∧ ((SqL K H p ys ∧ ∀ l, H l = none → Q (V.ref l) (upd H l (HO.tup ys))) ∨ (SqT K H p ys ∧ Q (V.ref p) H))) (tCons ta tNil)) σ H xs := fun H1 e Q q =>
  h H1 e _ fun H2 e2 => ⟨l, xs, rfl, .inl ⟨ex_l (e.trans e2) hl, fun p hp => q p _ (fresh_back e2 hp) (e2.trans (Ex.new hp)) upd_same⟩⟩
theorem eqv_same : ∀ ns : List Int, PyData.eqv (.list (ns.map PyData.int)) (.list (ns.map PyData.int)) = true := fun ns => by
  refine SeqAt.eqv_refl _ ?_
  exact SeqAt.canLay_of_shaped (PySem.W.ke_shaped_ints ns)
/-- two lists of the same ints -/
theorem ev_neSame {ta tb : TE} {l l2 : Addr} {ns : List Int} (ha : Ev ta σ H (.ref l)) (h : SqL K H l (ns.map V.int)) (hb : Ev tb σ H (.ref l2)) (h2 : SqL K H l2 (ns.map V.int)) : Ev (tOp (rNeD K) ta tb) σ H (.bl false) :=
  ev_op ha hb fun H2 e2 Q q => by
    refine ⟨.list (ns.map PyData.int), .list (ns.map PyData.int), .lst (ex_l e2 h) (dp_ints (c := l) ns), .lst (ex_l e2 h2) (dp_ints (c := l) ns), PySem.W.ke_shaped_ints ns, PySem.W.ke_shaped_ints ns, ?_⟩
    rw [eqv_same]
    exact q H2 (Ex.refl H2)
theorem ev_callN {sp : Sp} {m : Nat} {gV : List V → List V → List V} {E : XK} {tk : TA} {zs : List V} {z : V} (h : EvA tk σ H zs) (hl : zs.length = m) (hs : SpV sp (gV [] zs) H z) : Ev (tCallN 0 m sp gV E tNil tk) σ H z := fun H1 e Q q =>
  h H1 e _ fun H2 e2 => ⟨rfl, hl, hs H2 (e.trans e2) Q (fun H3 e3 => q H3 (e2.trans e3)) E⟩
/-- repr of a new list of two truths -/
theorem ev_repr2 {tl : TE} {x y : Bool} (h : EvL tl σ H [.bl x, .bl y]) : Ev (tCB (rRepr K) (tCons tl tNil)) σ H (.str (PyData.list [.bool x, .bool y]).shown) := fun H1 e Q q =>
  h H1 e _ fun p H2 _ e2 h2 => ⟨p, _, rfl, .lst (sq_of h2) (.cons (.bl x) (.cons (.bl y) .nil)), rfl, rfl, (by show (PyData.list [.bool x, .bool y]).depth ≤ 20; cases x <;> cases y <;> decide +kernel), (by cases x <;> cases y <;> decide +kernel), q H2 e2⟩
theorem et_ne_same {ta tb : TE} {z : Str} (h1 : Ev ta σ H (.str z)) (h2 : Ev tb σ H (.str z)) : EvT (tTest (tOp rNe ta tb)) σ H false :=
  et_is (et_test (ev_op h1 h2 (rv_ne rfl))) (by rw [decide_eq_true rfl] <;> rfl)
end
section
variable {P : Program} {w : World} {K : PySem.W.Frag} {mg : Str → Option Value} {base : Heap}
set_option maxHeartbeats 4000000 in
theorem ok_law {f fT fS fP fR fA fI fW fO : Addr} {fd fdT fdS fdP fdR fdA fdI fdW fdO : FuncData} {k : Nat} (F : Fun K "law" "law" sLaw f fd)
    (FT : Fun K "_law_tub" "_law_tub" sTub fT fdT) (GT : FnOk P w K mg base CX0 k fT fdT ["script"] (spTub K)) (bT : Binds K fdT ["script"] []) (gT : mg "_law_tub" = some (.ref fT))
    (FS : Fun K "_law_scoop" "_law_scoop" sScoop fS fdS) (GS : FnOk P w K mg base CX0 k fS fdS ["tub", "many"] spScoop) (bS : Binds K fdS ["tub", "many"] []) (gS : mg "_law_scoop" = some (.ref fS))
    (FP : Fun K "_law_pick" "_law_pick" sPick fP fdP) (GP : FnOk P w K mg base CX0 k fP fdP ["tub", "some"] (spPick K)) (bP : Binds K fdP ["tub", "some"] []) (gP : mg "_law_pick" = some (.ref fP))
    (FR : Fun K "_law_stirred" "_law_stirred" sStirred fR fdR) (GR : FnOk P w K mg base CX0 k fR fdR ["tub", "some"] (spStirred K)) (bR : Binds K fdR ["tub", "some"] []) (gR : mg "_law_stirred" = some (.ref fR))
    (FA : Fun K "_law_any" "_law_any" sAny fA fdA) (GA : FnOk P w K mg base CX0 k fA fdA ["tub"] (spAny K)) (bA : Binds K fdA ["tub"] []) (gA : mg "_law_any" = some (.ref fA))
    (FI : Fun K "is_integer" "is_integer" sInteger fI fdI) (GI : FnOk P w K mg base CX0 k fI fdI ["value"] (spInteger K)) (bI : Binds K fdI ["value"] []) (kI : KBn K fdI ["value"] 0 ["value"] just1 just1) (gI : mg "is_integer" = some (.ref fI))
    (FW : Fun K "is_within" "is_within" sWithin fW fdW) (GW : FnOk P w K mg base CX0 k fW fdW ["value", "least", "most"] (spWithin K)) (bW : Binds K fdW ["value", "least", "most"] []) (kW : KBn K fdW ["value", "least", "most"] 0 ["most", "value", "least"] perm3 perm3) (gW : mg "is_within" = some (.ref fW))
    (FO : Fun K "is_lot" "is_lot" sLot fO fdO) (GO : FnOk P w K mg base CX0 k fO fdO ["value"] (spLot K)) (bO : Binds K fdO ["value"] []) (kO : KBn K fdO ["value"] 0 ["value"] just1 just1) (gO : mg "is_lot" = some (.ref fO))
    (mrange : mg "range" = none) (mrepr : mg "repr" = none) (mlist : mg "list" = none) (mdict : mg "dict" = none) (mtuple : mg "tuple" = none) (mstr : mg "str" = none) :
    FnG P w K mg base (k + 1) f fd ["script"] (spLaw K) := by
  refine fn_g F scLaw (fun {vs H Q E} h => ?_) (fun cdv A outer s H vs Q E hgd hr h => ?_)
  · obtain ⟨a, ns, rfl, _⟩ := h
    rfl
  · obtain ⟨a, ns, rfl, hS, hl, q⟩ := h
    have nd := scLaw.nd
    refine ⟨_, pss_cons (ps_set (i := 1) nd rfl (.inr rfl) (pe_call GT hr (by rfl) gT FT.kp bT .nil pass0 (pa_cons (pv 0) pa_nil)))
      (pss_cons (ps_for PassesOwn.never rfl (pi_range1 (by rfl) mrange (pa_cons pe_int pa_nil)) (pg_name (i := 2) nd rfl (.inl rfl))
        (Evl.pss_cut (ps_asg (pe_call GA hr (by rfl) gA FA.kp bA .nil pass0 (pa_cons (pv 1) pa_nil)) (pg_tup (by rfl) (pgs_cons (pg_name (i := 3) nd rfl (.inl rfl)) (pgs_cons (pg_name (i := 4) nd rfl (.inl rfl)) pgs_nil))))
        (Evl.pss_cut (ps_par (i := 5) (j := 6) (by rfl) nd rfl rfl (by decide) rfl rfl
          (pa_cons (pe_call GP hr (by rfl) gP FP.kp bP .nil pass0 (pa_cons (pv 1) (pa_cons (pe_lst (pa_cons pe_non (pa_cons pe_int (pa_cons (pe_un un_neg pe_int) (pa_cons (pe_call GS hr (by rfl) gS FS.kp bS .nil pass0 (pa_cons (pv 1) (pa_cons pe_int pa_nil))) pa_nil))))) pa_nil)))
          (pa_cons (pe_call GP hr (by rfl) gP FP.kp bP .nil pass0 (pa_cons (pv 1) (pa_cons (pe_lst (pa_cons pe_non (pa_cons pe_int (pa_cons pe_int (pa_cons (pe_call GS hr (by rfl) gS FS.kp bS .nil pass0 (pa_cons (pv 1) (pa_cons pe_int pa_nil))) pa_nil))))) pa_nil))) pa_nil)) (by rfl))
        (Evl.pss_cut (ps_set (i := 7) nd rfl (.inl rfl) (pe_and (pv 4) (pe_and (pe_or (pe_cmpR op_isN (pv 5) pe_non (nomark _)) (pe_one (pe_cmpR op_ge (pv 3) (pv 5) (nomark _)))) (pe_one (pe_or (pe_cmpR op_isN (pv 6) pe_non (nomark _)) (pe_one (pe_cmpR op_le (pv 3) (pv 6) (nomark _))))))))
        (Evl.pss_cut (ps_if (pt_cmpR op_ne (pe_callB (call_reprD hgd hr.units) (by rfl) mrepr (by decide +kernel) (pa_cons (pe_lst (pa_cons (pe_call GI hr (by rfl) gI FI.kp bI .nil pass0 (pa_cons (pv 3) pa_nil)) (pa_cons (pe_callN0 GI hr (by rfl) gI FI.kp kI pass0 (pk_cons (pv 3) pk_nil)) pa_nil))) pa_nil))
            (pe_callB (call_reprD hgd hr.units) (by rfl) mrepr (by decide +kernel) (pa_cons (pe_lst (pa_cons (pv 4) (pa_cons (pv 4) pa_nil))) pa_nil)) (nomark _)) (pss_one (ps_ret pe_bl)) pss_nil)
        (Evl.pss_cut (ps_if (pt_cmpR op_ne (pe_callB (call_reprD hgd hr.units) (by rfl) mrepr (by decide +kernel) (pa_cons (pe_lst (pa_cons (pe_call GW hr (by rfl) gW FW.kp bW .nil pass0 (pa_cons (pv 3) (pa_cons (pv 5) (pa_cons (pv 6) pa_nil)))) (pa_cons (pe_callN0 GW hr (by rfl) gW FW.kp kW pass0 (pk_cons (pv 6) (pk_cons (pv 3) (pk_cons (pv 5) pk_nil)))) pa_nil))) pa_nil))
            (pe_callB (call_reprD hgd hr.units) (by rfl) mrepr (by decide +kernel) (pa_cons (pe_lst (pa_cons (pv 7) (pa_cons (pv 7) pa_nil))) pa_nil)) (nomark _)) (pss_one (ps_ret pe_bl)) pss_nil)
        (Evl.pss_cut (ps_set (i := 8) nd rfl (.inl rfl) (pe_call GP hr (by rfl) gP FP.kp bP .nil pass0 (pa_cons (pv 1) (pa_cons (pe_lst (pa_cons pe_int (pa_cons pe_int (pa_cons pe_int (pa_cons pe_int (pa_cons (pe_call GS hr (by rfl) gS FS.kp bS .nil pass0 (pa_cons (pv 1) (pa_cons pe_int pa_nil))) pa_nil)))))) pa_nil))))
        (Evl.pss_cut (ps_setLc (i := 9) (own := [("number", 12)]) (g := gName 12) (tt := tYes) rfl nd rfl rfl (sw_true rfl rfl rfl (by decide +kernel)) (pi_list (pe_call GR hr (by rfl) gR FR.kp bR .nil pass0 (pa_cons (pv 1) (pa_cons (pe_listRg rfl (by rfl) mlist (prg_2 (by rfl) mrange pe_int (pe_op op_add (pv 8) pe_int))) pa_nil))))
            (blkOk_by (N := ["script", "tub", "turn", "value", "whole", "least", "most", "due", "many", "lot", "kept", "bent", "number", "each"]) (sc := defScope sLaw) (by decide +kernel)) (fun _ _ _ _ _ => pg_name (i := 12) nd rfl (Or.inl rfl)) (fun _ _ _ _ _ => pts_nil)
            (fun _ _ _ _ _ => pe_op op_add (pe_op op_mul (pv 12) (pv 12)) (pe_call GS hr (by rfl) gS FS.kp bS .nil pass0 (pa_cons (pv 1) (pa_cons pe_int pa_nil)))))
        (Evl.pss_cut (ps_set (i := 9) nd rfl (.inl rfl) (pe_callTy (call_list_dK rfl) (by rfl) mlist (by decide +kernel) (pa_cons (pe_callTy (call_dictP rfl) (by rfl) mdict (by decide +kernel) (pa_cons
            (pe_lc (own := [("number", 12)]) (g := gName 12) (tt := tYes) rfl nd (pi_list (pv 9)) (blkOk_by (N := ["script", "tub", "turn", "value", "whole", "least", "most", "due", "many", "lot", "kept", "bent", "number", "each"]) (sc := defScope sLaw) (by decide +kernel))
              (fun _ _ _ _ _ => pg_name (i := 12) nd rfl (Or.inl rfl)) (fun _ _ _ _ _ => pts_nil) (fun _ _ _ _ _ => pe_tup (pa_cons (pv 12) (pa_cons pe_bl pa_nil)))) pa_nil)) pa_nil)))
        (Evl.pss_cut (ps_set (i := 10) nd rfl (.inl rfl) (pe_callTy call_list_of (by rfl) mlist (by decide +kernel) (pa_cons (pv 9) pa_nil)))
        (Evl.pss_cut (ps_if (PW.pt (pw_or (pt_cmpR op_ne (pe_callB (call_reprD hgd hr.units) (by rfl) mrepr (by decide +kernel) (pa_cons (pe_lst (pa_cons (pe_call GO hr (by rfl) gO FO.kp bO .nil pass0 (pa_cons (pv 9) pa_nil)) (pa_cons (pe_callN0 GO hr (by rfl) gO FO.kp kO pass0 (pk_cons (pe_callTy call_tuple_of (by rfl) mtuple (by decide +kernel) (pa_cons (pv 9) pa_nil)) pk_nil)) pa_nil))) pa_nil)) pe_str (nomark _))
            (pw_or1 (pt_cmpR (op_neD hr.units) (pv 9) (pv 10) (nomark _))))) (pss_one (ps_ret pe_bl)) pss_nil)
        (Evl.pss_cut (ps_set (i := 11) nd rfl (.inl rfl) (pe_lst (pa_cons (pe_op op_cat (pv 9) (pe_lst (pa_cons pe_int pa_nil))) (pa_cons (pe_op op_cat (pe_lst (pa_cons (pe_un un_neg pe_int) pa_nil)) (pv 9))
            (pa_cons (pe_ifExp (pt_cmpR (op_neD hr.units) (pv 9) (pe_lst pa_nil) (nomark _)) (pe_op op_cat (pv 9) (pe_slice sl_list (pv 9) po_none (po_some pe_int))) (pe_lst (pa_cons pe_int (pa_cons pe_int pa_nil))))
            (pa_cons (pe_op op_cat (pv 9) (pe_lst (pa_cons pe_bl pa_nil)))
            (pa_cons (pe_op op_cat (pe_lc (own := [("each", 13)]) (g := gName 13) (tt := tYes) rfl nd (pi_list (pv 9)) (blkOk_by (N := ["script", "tub", "turn", "value", "whole", "least", "most", "due", "many", "lot", "kept", "bent", "number", "each"]) (sc := defScope sLaw) (by decide +kernel))
              (fun _ _ _ _ _ => pg_name (i := 13) nd rfl (Or.inl rfl)) (fun _ _ _ _ _ => pts_nil) (fun _ _ _ _ _ => pe_callTy call_str_int (by rfl) mstr (by decide +kernel) (pa_cons (pv 13) pa_nil))) (pe_lst (pa_cons pe_str pa_nil)))
            (pa_cons (pe_op op_cat (pe_lc (own := [("each", 13)]) (g := gName 13) (tt := tYes) rfl nd (pi_list (pv 9)) (blkOk_by (N := ["script", "tub", "turn", "value", "whole", "least", "most", "due", "many", "lot", "kept", "bent", "number", "each"]) (sc := defScope sLaw) (by decide +kernel))
              (fun _ _ _ _ _ => pg_name (i := 13) nd rfl (Or.inl rfl)) (fun _ _ _ _ _ => pts_nil) (fun _ _ _ _ _ => pe_lst (pa_cons (pv 13) pa_nil))) (pe_lst (pa_cons (pe_lst pa_nil) pa_nil))) pa_nil))))))))
        (Evl.pss_cut (ps_set (i := 11) nd rfl (.inl rfl) (pe_op op_cat (pv 11) (pe_lst (pa_cons pe_non (pa_cons pe_int (pa_cons pe_str (pa_cons (pe_disp (pps_cons pe_int pe_int pps_nil) (by decide) (by decide) (by decide) (by decide))
            (pa_cons (pe_lst (pa_cons (pv 9) pa_nil)) (pa_cons (pe_op op_cat (pv 9) (pe_lst (pa_cons pe_non pa_nil))) (pa_cons (pe_tup (pa_cons (pe_callTy call_tuple_of (by rfl) mtuple (by decide +kernel) (pa_cons (pv 9) pa_nil)) pa_nil))
            (pa_cons (pe_op op_cat (pe_lc (own := [("each", 13)]) (g := gName 13) (tt := tYes) rfl nd (pi_list (pv 9)) (blkOk_by (N := ["script", "tub", "turn", "value", "whole", "least", "most", "due", "many", "lot", "kept", "bent", "number", "each"]) (sc := defScope sLaw) (by decide +kernel))
              (fun _ _ _ _ _ => pg_name (i := 13) nd rfl (Or.inl rfl)) (fun _ _ _ _ _ => pts_nil) (fun _ _ _ _ _ => pe_un un_neg (pv 13))) (pe_lst (pa_cons (pe_un un_neg pe_int) pa_nil))) pa_nil)))))))))))
        (pss_one (ps_if (pt_cmpR op_isnot_bl (pe_call GO hr (by rfl) gO FO.kp bO .nil pass0 (pa_cons (pe_call GP hr (by rfl) gP FP.kp bP .nil pass0 (pa_cons (pv 1) (pa_cons (pv 11) pa_nil))) pa_nil)) pe_bl (nomark _)) (pss_one (ps_ret pe_bl)) pss_nil)))))))))))))))
      (pss_one (ps_ret (pe_and (pe_cmpR op_is_bl (pe_call GO hr (by rfl) gO FO.kp bO .nil pass0 (pa_cons (pe_lst pa_nil) pa_nil)) pe_bl (nomark _)) (pe_one (pe_cmpR op_is_bl (pe_call GO hr (by rfl) gO FO.kp bO .nil pass0 (pa_cons (pe_lst (pa_cons (pe_op op_pow pe_int pe_int) (pa_cons pe_int pa_nil))) pa_nil)) pe_bl (nomark _))))))), ?_⟩
    -- tub = _law_tub(script)
    refine ⟨.ref a, rfl, a, ns, rfl, hS, by omega, fun t c H1 ht hc sm T0 => ?_⟩
    refine Evl.q_forR1 (n := 5) (Evl.ea_cons Evl.ev_c Evl.ea_nil) ⟨by decide, by decide⟩ (fun i σ' H' => ∃ x2 x3 x4 x5 x6 x7 x8 x9 x10 x11 x12 x13 : Option V, σ' = [some (.ref a), some (.ref t), x2, x3, x4, x5, x6, x7, x8, x9, x10, x11, x12, x13] ∧ Tub H' t c (100 * i))
      (fun H2 e2 => ⟨_, _, _, _, _, _, _, _, _, _, _, _, rfl, (T0.ex e2).mono (by omega)⟩) (fun i σ' H2 hi hP => ?_) (fun σ' H2 hP => ?_)
    rotate_left
    · obtain ⟨x2, x3, x4, x5, x6, x7, x8, x9, x10, x11, x12, x13, rfl, T⟩ := hP
      clear T
      have ty : ∀ {H2 : Hp} {is : List Int}, ∀ v ∈ is.map V.int, ∃ n, Ty7 K H2 v n := fun v hv => by
        obtain ⟨j, _, rfl⟩ := List.mem_map.mp hv
        exact ⟨_, .int j⟩
      have isT : ∀ {H2 : Hp} {tl : TE} {σ2 : L2.St} {is : List Int}, Evl.EvL tl σ2 H2 (is.map V.int) → is.length ≤ 4000 → lotV (is.map V.int) = true → Evl.Ev (tOp (fun x y H Q => ∃ a b, x = V.bl a ∧ y = V.bl b ∧ Q (V.bl (decide (a = b))) H) (tCall (spLot K) [] E0 (tCons tl tNil)) (tC (.bl true))) σ2 H2 (.bl true) :=
        fun {H2 tl σ2 is} h hz hy => fun H3 e3 Q q => h H3 e3 _ fun p H4 _ e4 h4 => ⟨.ref p, true, rfl, hy ▸ .lst (Evl.sq_of h4) (by rw [List.length_map]; exact hz) ty, fun H5 e5 => ⟨true, true, rfl, rfl, q H5 (e4.trans e5)⟩⟩
      exact Evl.s_ret (Evl.ev_andV (isT (is := []) (Evl.el_lst Evl.ea_nil (Nat.zero_le _)) (Nat.zero_le _) rfl) fun _ => isT (is := [10 ^ (40 : Int).toNat, 1]) (Evl.el_lst (Evl.ea_cons (Evl.ev_op Evl.ev_c Evl.ev_c (Evl.rv_I ⟨by decide, by decide, by decide⟩)) (Evl.ea_cons Evl.ev_c Evl.ea_nil)) (by show 2 ≤ 100000; omega)) (by show 2 ≤ 4000; omega) (by decide +kernel)) fun H3 _ => q H3
    · obtain ⟨x2, x3, x4, x5, x6, x7, x8, x9, x10, x11, x12, x13, rfl, T⟩ := hP
      have hi5 : i < 5 := by omega
      -- value, whole = _law_any(tub)
      refine Evl.q_cut (M := fun σ2 H3 => ∃ (v : V) (b : Bool) (m : String), σ2 = [some (.ref a), some (.ref t), some (.int i), some v, some (.bl b), x5, x6, x7, x8, x9, x10, x11, x12, x13] ∧ Tub H3 t c (100 * i + 4) ∧ (∀ H2, Kept t H3 H2 → Ty7 K H2 v m) ∧ b = decide (m = "int"))
        ⟨.ref t, rfl, t, c, 100 * i, rfl, T, by omega, fun v b m p H3 hp hk hh h7 hb T3 => ⟨p, [v, .bl b], rfl, .inl (.inl hh), rfl, v, [.bl b], rfl, .bl b, [], rfl, rfl, v, b, m, rfl, T3, h7, hb⟩⟩ fun σ2 H3 hM => ?_
      clear T
      obtain ⟨v, b, m, rfl, T, h7, hb⟩ := hM
      -- least, most
      refine Evl.q_cut (M := fun σ2 H4 => ∃ lo hi : V, σ2 = [some (.ref a), some (.ref t), some (.int i), some v, some (.bl b), some lo, some hi, x7, x8, x9, x10, x11, x12, x13] ∧ Tub H4 t c (100 * i + 8) ∧ Kept t H3 H4 ∧ Bnd lo ∧ Bnd hi) ?_ fun σ2 H4 hM => ?_
      · refine ⟨.ref t, rfl, 1, rfl, .ref t, rfl, t, c, 30, 100 * i + 4, rfl, T, by omega, by decide, by decide, fun r H4 r0 r1 k1 T1 => ⟨(by show 4 ≤ sizeLine; decide), fun l hl => ?_⟩⟩
        obtain ⟨lt, lc⟩ := T1.ne hl
        refine ⟨t, c, l, _, 100 * i + 4 + 1, rfl, T1.same (same_new hl), by omega, lt, .inl (.inl upd_same), by show 1 ≤ 4; omega, by show 4 ≤ 10000; omega, fun j lo H5 hj k2 T2 => ?_⟩
        have blo : Bnd lo := by
          have hm := List.mem_of_getElem? hj
          simp only [List.mem_cons, List.not_mem_nil, or_false] at hm
          rcases hm with e | e | e | e <;> rw [e] <;> exact True.intro
        refine ⟨.ref t, rfl, .ref t, rfl, t, c, 30, 100 * i + 4 + 1 + 1, rfl, T2, by omega, by decide, by decide, fun r2 H6 r20 r21 k3 T3 => ⟨(by show 4 ≤ sizeLine; decide), fun l2 hl2 => ?_⟩⟩
        obtain ⟨lt2, lc2⟩ := T3.ne hl2
        refine ⟨t, c, l2, _, 100 * i + 4 + 1 + 1 + 1, rfl, T3.same (same_new hl2), by omega, lt2, .inl (.inl upd_same), by show 1 ≤ 4; omega, by show 4 ≤ 10000; omega, fun j2 hi H7 hj2 k4 T4 => ?_⟩
        have bhi : Bnd hi := by
          have hm := List.mem_of_getElem? hj2
          simp only [List.mem_cons, List.not_mem_nil, or_false] at hm
          rcases hm with e | e | e | e <;> rw [e] <;> exact True.intro
        refine ⟨lo, hi, rfl, lo, hi, rfl, T4, ?_, blo, bhi⟩
        exact ((((k1.trans (kept_ex (Evl.Ex.new hl))).trans k2).trans k3).trans (kept_ex (Evl.Ex.new hl2))).trans k4
      obtain ⟨lo, hi, rfl, T4, k34, blo, bhi⟩ := hM
      have h7b : ∀ H2, Kept t H4 H2 → Ty7 K H2 v m := fun H2 k => h7 H2 (k34.trans k)
      clear h7 T k34
      -- due
      refine Evl.q_cut (M := fun σ2 H5 => σ2 = [some (.ref a), some (.ref t), some (.int i), some v, some (.bl b), some lo, some hi, some (.bl (wi v lo hi)), x8, x9, x10, x11, x12, x13] ∧ Evl.Ex H4 H5) ?_ fun σ2 H5 hM => ?_
      · cases b with
        | false =>
          have hw : wi v lo hi = false := by
            have h := h7b H4 (Kept.refl t H4)
            cases h with
            | int j => exact absurd hb (by decide)
            | _ => rfl
          exact Evl.s_asg (Evl.ev_is (Evl.ev_andV (b := false) (Evl.ev_var rfl) fun z => by cases z) (by rw [hw] <;> rfl)) fun H5 e5 => ⟨rfl, e5⟩
        | true =>
          have h := h7b H4 (Kept.refl t H4)
          obtain ⟨j, rfl⟩ := h.int_of (of_decide_eq_true hb.symm)
          exact Evl.s_asg (Evl.ev_is (Evl.ev_andV (Evl.ev_var rfl) fun _ => Evl.ev_andV (ev_lo rfl rfl blo) fun _ => ev_hi rfl rfl bhi) (by rw [Bool.true_and] <;> rfl)) fun H5 e5 => ⟨rfl, e5⟩
      obtain ⟨rfl, e5⟩ := hM
      have T5 := T4.ex e5
      have h7c : Ty7 K H5 v m := h7b H5 (kept_ex e5)
      clear h7b T4 e5
      -- is_integer
      refine Evl.q_cut (M := fun σ2 H6 => σ2 = [some (.ref a), some (.ref t), some (.int i), some v, some (.bl b), some lo, some hi, some (.bl (wi v lo hi)), x8, x9, x10, x11, x12, x13] ∧ Evl.Ex H5 H6) ?_ fun σ2 H6 hM => ?_
      · subst hb
        refine Evl.s_when (b := false) (et_ne_same (ev_repr2 (Evl.el_lst (Evl.ea_cons (Evl.ev_call (Evl.ea_cons (Evl.ev_var rfl) Evl.ea_nil) (spv_integer h7c)) (Evl.ea_cons (ev_callN (Evl.ea_cons (Evl.ev_var rfl) Evl.ea_nil) rfl (spv_integer h7c)) Evl.ea_nil)) (by show 2 ≤ 100000; omega)))
          (ev_repr2 (Evl.el_lst (Evl.ea_cons (Evl.ev_var rfl) (Evl.ea_cons (Evl.ev_var rfl) Evl.ea_nil)) (by show 2 ≤ 100000; omega)))) (fun z => by cases z) fun _ H6 e6 => ⟨rfl, e6⟩
      obtain ⟨rfl, e6⟩ := hM
      -- is_within
      refine Evl.q_cut (M := fun σ2 H7 => σ2 = [some (.ref a), some (.ref t), some (.int i), some v, some (.bl b), some lo, some hi, some (.bl (wi v lo hi)), x8, x9, x10, x11, x12, x13] ∧ Evl.Ex H6 H7) ?_ fun σ2 H7 hM => ?_
      · have h7d := h7c.ex e6
        refine Evl.s_when (b := false) (et_ne_same (ev_repr2 (Evl.el_lst (Evl.ea_cons (Evl.ev_call (Evl.ea_cons (Evl.ev_var rfl) (Evl.ea_cons (Evl.ev_var rfl) (Evl.ea_cons (Evl.ev_var rfl) Evl.ea_nil))) (spv_within h7d blo bhi)) (Evl.ea_cons (ev_callN (Evl.ea_cons (Evl.ev_var rfl) (Evl.ea_cons (Evl.ev_var rfl) (Evl.ea_cons (Evl.ev_var rfl) Evl.ea_nil))) rfl (spv_within h7d blo bhi)) Evl.ea_nil)) (by show 2 ≤ 100000; omega)))
          (ev_repr2 (Evl.el_lst (Evl.ea_cons (Evl.ev_var rfl) (Evl.ea_cons (Evl.ev_var rfl) Evl.ea_nil)) (by show 2 ≤ 100000; omega)))) (fun z => by cases z) fun _ H7 e7 => ⟨rfl, e7⟩
      obtain ⟨rfl, e7⟩ := hM
      have T7 := (T5.ex e6).ex e7
      clear T5 e6 e7 h7c
      -- many
      refine Evl.q_cut (M := fun σ2 H8 => ∃ z : Int, σ2 = [some (.ref a), some (.ref t), some (.int i), some v, some (.bl b), some lo, some hi, some (.bl (wi v lo hi)), some (.int z), x9, x10, x11, x12, x13] ∧ 0 ≤ z ∧ z ≤ 39 ∧ Tub H8 t c (100 * i + 10)) ?_ fun σ2 H8 hM => ?_
      · refine ⟨.ref t, rfl, .ref t, rfl, t, c, 40, 100 * i + 8, rfl, T7, by omega, by decide, by decide, fun r H8 r0 r1 k1 T1 => ⟨(by show 5 ≤ sizeLine; decide), fun l hl => ?_⟩⟩
        obtain ⟨lt, lc⟩ := T1.ne hl
        refine ⟨t, c, l, _, 100 * i + 8 + 1, rfl, T1.same (same_new hl), by omega, lt, .inl (.inl upd_same), by show 1 ≤ 5; omega, by show 5 ≤ 10000; omega, fun j lo H9 hj k2 T2 => ?_⟩
        have hm := List.mem_of_getElem? hj
        simp only [List.mem_cons, List.not_mem_nil, or_false] at hm
        rcases hm with e | e | e | e | e <;> rw [e] <;> exact ⟨_, rfl, by omega, by omega, T2⟩
      obtain ⟨z, rfl, z0, z1, T8⟩ := hM
      clear T7
      -- lot, twins among it
      refine Evl.q_cut (M := fun σ2 H9 => ∃ (l : Addr) (ms : List Int) (y12 : Option V), σ2 = [some (.ref a), some (.ref t), some (.int i), some v, some (.bl b), some lo, some hi, some (.bl (wi v lo hi)), some (.int z), some (.ref l), x10, x11, y12, x13] ∧ H9 l = some (.lst (ms.map V.int)) ∧ l ≠ t ∧ l ≠ c ∧ ms.length ≤ 39 ∧ (∀ x ∈ ms, 1 ≤ x ∧ x ≤ 2000) ∧ Tub H9 t c (100 * i + 90)) ?_ fun σ2 H9 hM => ?_
      · refine ⟨.ref t, rfl, .int z, rfl, z, 1, rfl, rfl, 1, z + 1, rfl, rfl, RgOk.of_le (by omega) (by omega) (by omega) (by omega), fun g hg => ?_⟩
        obtain ⟨gt, gc⟩ := T8.ne hg
        have hrg : rgV 1 (z + 1) = ((List.range z.toNat).map fun j : Nat => (1 : Int) + (j : Int)).map V.int := by
          unfold rgV
          rw [show (z + 1 - 1).toNat = z.toNat by omega, List.map_map]
          rfl
        have hrl : ((List.range z.toNat).map fun j : Nat => (1 : Int) + (j : Int)).length = z.toNat := by rw [List.length_map, List.length_range]
        refine ⟨t, c, g, (List.range z.toNat).map fun j : Nat => (1 : Int) + (j : Int), 100 * i + 10, rfl, T8.same (same_new hg), by rw [hrl]; omega, gt, .inl (.inl (by rw [upd_same, hrg])), by rw [hrl]; omega, fun ms p H9 hml hmem hp hk hh T9 => ⟨p, rfl, ⟨_, Evl.sq_of hh⟩, fun Dl hD => ?_⟩⟩
        rw [hrl] at hml T9
        obtain ⟨Dt, Dc⟩ := T9.ne hD
        have hpD : p ≠ Dl := ne_of_none hh hD
        have hpt : p ≠ t := by
          intro e
          obtain ⟨cs, tu, re, h1, _⟩ := T8
          rw [e, upd_ne gt.symm, h1] at hp
          cases hp
        have mb : ∀ x ∈ ms, 1 ≤ x ∧ x ≤ 39 := fun x hx => by
          obtain ⟨j, hj, rfl⟩ := List.mem_map.mp (hmem x hx)
          have := List.mem_range.mp hj
          omega
        refine lc_list (xs := ms.map V.int) (fun j H' => ∃ acc : List Int, H' Dl = some (.lst (acc.map V.int)) ∧ acc.length = j ∧ (∀ x ∈ acc, 1 ≤ x ∧ x ≤ 2000) ∧ H' p = some (.lst (ms.map V.int)) ∧ Tub H' t c (100 * i + 50 + j)) ?_ ?_ ?_ ?_
        · refine ⟨[], upd_same, rfl, fun _ h => (nomatch h), ?_, (T9.same (same_new hD)).mono (by omega)⟩
          rw [upd_ne hpD]
          exact hh
        · rintro j H' _ ⟨acc, _, _, _, h4, _⟩
          exact Evl.sq_of h4
        · rintro j x H' hx ⟨acc, h1, h2, h3, h4, T'⟩
          have hj : j < ms.length := by
            have := (List.getElem?_eq_some_iff.mp hx).1
            rwa [List.length_map] at this
          rw [List.getElem?_map, List.getElem?_eq_getElem hj] at hx
          cases hx
          have hb2 := mb ms[j] (List.getElem_mem hj)
          refine ⟨rfl, ?_⟩
          refine ⟨_, rfl, _, rfl, ms[j], ms[j], rfl, rfl, .inl ⟨by omega, by omega⟩, .ref t, rfl, t, c, 2, 100 * i + 50 + j, rfl, T', by omega, by decide, by decide, fun r H4 r0 r1 k1 T4 => ⟨ms[j] * ms[j], r, rfl, rfl, acc.map V.int, k1 _ _ Dt h1, ?_, ?_⟩⟩
          · rw [List.length_map, h2]
            exact Nat.lt_of_le_of_lt (by omega : j ≤ 1000) (by decide)
          · refine ⟨acc ++ [ms[j] * ms[j] + r], ?_, by rw [List.length_append, h2]; rfl, fun x hx => ?_, ?_, ?_⟩
            · rw [upd_same, List.map_append]
              rfl
            · rcases List.mem_append.mp hx with h | h
              · exact h3 x h
              · rw [List.mem_singleton.mp h]
                have a1 : 1 * 1 ≤ ms[j] * ms[j] := Int.mul_le_mul hb2.1 hb2.1 (by omega) (by omega)
                have a2 : ms[j] * ms[j] ≤ 39 * 39 := Int.mul_le_mul hb2.2 hb2.2 (by omega) (by omega)
                omega
            · rw [upd_ne hpD]
              exact k1 _ _ hpt h4
            · exact T4.upd Dt Dc
        · rintro H' ⟨acc, h1, h2, h3, h4, T'⟩
          rw [List.length_map] at h2 T'
          exact ⟨Dl, acc, _, rfl, h1, Dt, Dc, by omega, h3, T'.mono (by omega)⟩
      obtain ⟨l, ms, y12, rfl, hl9, lt9, lc9, len9, bd9, T9⟩ := hM
      clear T8
      -- lot, unlike ones
      refine Evl.q_cut (M := fun σ2 H10 => ∃ (g : Addr) (rs : List Int) (w12 : Option V), σ2 = [some (.ref a), some (.ref t), some (.int i), some v, some (.bl b), some lo, some hi, some (.bl (wi v lo hi)), some (.int z), some (.ref g), x10, x11, w12, x13] ∧ H10 g = some (.lst (rs.map V.int)) ∧ rs.length ≤ 39 ∧ (∀ x ∈ rs, 1 ≤ x ∧ x ≤ 2000) ∧ rs.Nodup ∧ g ≠ t ∧ Tub H10 t c (100 * i + 90)) ?_ fun σ2 H10 hM => ?_
      · refine ⟨.ref l, rfl, l, rfl, ⟨_, Evl.sq_of hl9⟩, fun Dl hD => ?_⟩
        refine lc_list (xs := ms.map V.int) (fun j H' => ∃ ps : List Addr, H' Dl = some (.lst (ps.map V.ref)) ∧ ps.length = j ∧ Evl.Ex H9 H' ∧ ∀ (k : Nat) (p : Addr) (x : Int), ps[k]? = some p → ms[k]? = some x → p ≠ Dl ∧ H' p = some (.tup [.int x, .bl true])) ?_ ?_ ?_ ?_
        · exact ⟨[], upd_same, rfl, Evl.Ex.new hD, fun k p x h => (nomatch h)⟩
        · rintro j H' _ ⟨ps, _, _, e2, _⟩
          exact Evl.sq_of (e2 _ _ hl9)
        · rintro j x H' hx ⟨ps, h1, h2, e2, h4⟩
          have hj : j < ms.length := by
            have := (List.getElem?_eq_some_iff.mp hx).1
            rwa [List.length_map] at this
          rw [List.getElem?_map, List.getElem?_eq_getElem hj] at hx
          cases hx
          refine ⟨rfl, _, rfl, (by show 2 ≤ sizeLine; decide), fun p hp => ⟨ps.map V.ref, Evl.Ex.new hp _ _ h1, ?_, ?_⟩⟩
          · rw [List.length_map, h2]
            exact Nat.lt_of_le_of_lt (by omega : j ≤ 1000) (by decide)
          · have hpD : p ≠ Dl := (ne_of_none h1 hp).symm
            have e3 : Evl.Ex H' (upd H' p (.tup [.int ms[j], .bl true])) := Evl.Ex.new hp
            refine ⟨ps ++ [p], ?_, by rw [List.length_append, h2]; rfl, Evl.Ex.mut (e2.trans e3) hD, fun k u x hu hx => ?_⟩
            · rw [upd_same, List.map_append]
              rfl
            · by_cases hk : k < j
              · rw [List.getElem?_append_left (by omega)] at hu
                obtain ⟨a1, a2⟩ := h4 k u x hu hx
                refine ⟨a1, ?_⟩
                rw [upd_ne a1]
                exact e3 _ _ a2
              · have hk2 : k = j := by
                  have := (List.getElem?_eq_some_iff.mp hu).1
                  rw [List.length_append] at this
                  have : [p].length = 1 := rfl
                  omega
                subst hk2
                rw [List.getElem?_append_right (by omega), h2, Nat.sub_self] at hu
                cases hu
                rw [List.getElem?_eq_getElem hj] at hx
                cases hx
                refine ⟨hpD, ?_⟩
                rw [upd_ne hpD, upd_same]
        · rintro H' ⟨ps, h1, h2, e2, h4⟩
          rw [List.length_map] at h2
          obtain ⟨rs, g1, g2, g3, g4⟩ := merge_ints ms [] List.nodup_nil
          refine ⟨Dl, ps, ms.map fun x => ((Sum.inl x : L2.Key), V.bl true), rfl, .inl (.inl h1), paired_of (by rw [List.length_map, h2]) fun k p kv hp hkv => ?_, fun d hd => ⟨d, _, rfl, upd_same, fun g hg => ?_⟩⟩
          · rw [List.getElem?_map] at hkv
            cases hx : ms[k]? with
            | none => rw [hx] at hkv; cases hkv
            | some x =>
              rw [hx] at hkv
              cases hkv
              exact .inl (.inl (h4 k p x hp hx).2)
          · have gt := (((T9.ex e2).same (same_new (o := .dK (mergeK [] (ms.map fun x => ((Sum.inl x : L2.Key), V.bl true)))) hd)).ne hg).1
            have T10 := ((T9.ex e2).same (same_new (o := .dK (mergeK [] (ms.map fun x => ((Sum.inl x : L2.Key), V.bl true)))) hd)).same (same_new (o := .lst ((mergeK [] (ms.map fun x => ((Sum.inl x : L2.Key), V.bl true))).map fun kv => kV kv.1)) hg)
            have eg : (mergeK [] (ms.map fun x => ((Sum.inl x : L2.Key), V.bl true))).map (fun kv => kV kv.1) = rs.map V.int := by
              rw [show mergeK [] (ms.map fun x => ((Sum.inl x : L2.Key), V.bl true)) = rs.map (fun x => ((Sum.inl x : L2.Key), V.bl true)) from g1, List.map_map]
              rfl
            rw [eg] at T10 ⊢
            exact ⟨g, rs, _, rfl, upd_same, by rw [List.length_nil] at g4; omega, fun x hx => bd9 x ((g3 x hx).elim (fun h => (nomatch h)) id), g2, gt, T10⟩
      obtain ⟨g, rs, w12, rfl, hg10, len10, bd10, nd10, gt, T10⟩ := hM
      clear T9 hl9 lt9 lc9 len9 bd9
      have sq : ∀ {H2 : Hp}, Evl.Ex H10 H2 → SqL K H2 g (rs.map V.int) := fun e => Evl.sq_of (e _ _ hg10)
      -- kept
      refine Evl.q_cut (M := fun σ2 H11 => ∃ (g2 : Addr), σ2 = [some (.ref a), some (.ref t), some (.int i), some v, some (.bl b), some lo, some hi, some (.bl (wi v lo hi)), some (.int z), some (.ref g), some (.ref g2), x11, w12, x13] ∧ H11 g2 = some (.lst (rs.map V.int)) ∧ Evl.Ex H10 H11) ?_ fun σ2 H11 hM => ?_
      · exact Evl.s_asgL (Evl.el_list (Evl.ev_var rfl) (sq (Evl.Ex.refl H10))) fun p H11 _ e11 h11 => ⟨p, rfl, h11, e11⟩
      obtain ⟨g2, rfl, hg2, e11⟩ := hM
      -- is_lot of it
      refine Evl.q_cut (M := fun σ2 H12 => σ2 = [some (.ref a), some (.ref t), some (.int i), some v, some (.bl b), some lo, some hi, some (.bl (wi v lo hi)), some (.int z), some (.ref g), some (.ref g2), x11, w12, x13] ∧ Evl.Ex H10 H12) ?_ fun σ2 H12 hM => ?_
      · have yes : lotV (rs.map V.int) = true := lot_yes (fun x hx => (bd10 x hx).1) nd10
        have ty : ∀ {H2 : Hp}, ∀ v ∈ rs.map V.int, ∃ n, Ty7 K H2 v n := fun v hv => by
          obtain ⟨j, _, rfl⟩ := List.mem_map.mp hv
          exact ⟨_, .int j⟩
        have hL : LotR K H11 (.ref g) true := yes ▸ .lst (sq e11) (by rw [List.length_map]; omega) ty
        have hU : ∀ p H2, H2 p = some (.tup (rs.map V.int)) → LotR K H2 (.ref p) true := fun p H2 h => yes ▸ .tup (Evl.st_of h) (by rw [List.length_map]; omega) ty
        have es : (PyData.list [.bool true, .bool true]).shown = ("[True, True]" : Str) := by decide +kernel
        refine Evl.s_when (b := false) (Evl.et_is (Evl.et_or (et_ne_same (z := "[True, True]") (es ▸ ev_repr2 (Evl.el_lst (Evl.ea_cons (Evl.ev_call (Evl.ea_cons (Evl.ev_var rfl) Evl.ea_nil) (spv_lot hL)) (Evl.ea_cons (ev_callNU (eu_tuple (Evl.ev_var rfl) (sq e11)) fun p H2 h _ => spv_lot (hU p H2 h)) Evl.ea_nil)) (by show 2 ≤ 100000; omega))) Evl.ev_c)
          fun _ => Evl.et_test (ev_neSame (Evl.ev_var rfl) (sq e11) (Evl.ev_var rfl) (Evl.sq_of hg2))) rfl) (fun z => by cases z) fun _ H12 e12 => ⟨rfl, e11.trans e12⟩
      obtain ⟨rfl, e12⟩ := hM
      have T12 := T10.ex e12
      have hg12 := e12 _ _ hg10
      have sg : ∀ {H2 : Hp}, Evl.Ex H12 H2 → SqL K H2 g (rs.map V.int) := fun e => Evl.sq_of (e _ _ hg12)
      have lz : (rs.map V.int).length ≤ 39 := by rw [List.length_map]; exact len10
      clear e11 e12 sq hg2 T10 hg10
      obtain ⟨ho, ht12⟩ : ∃ o, H12 t = some o := by
        obtain ⟨cs, tu, re, h1, _⟩ := T12
        exact ⟨_, h1⟩
      -- bent, the first six
      refine Evl.q_cut (M := fun σ2 H13 => ∃ (B : Addr) (us : List V), σ2 = [some (.ref a), some (.ref t), some (.int i), some v, some (.bl b), some lo, some hi, some (.bl (wi v lo hi)), some (.int z), some (.ref g), some (.ref g2), some (.ref B), w12, x13] ∧ H13 B = some (.lst us) ∧ us.length = 6 ∧ (∀ u ∈ us, Bad K t H13 u) ∧ B ≠ t ∧ Evl.Ex H12 H13) ?_ fun σ2 H13 hM => ?_
      · refine set_lst (n := 6) (t := t) (na_cons ?_ (na_cons ?_ (na_cons ?_ (na_cons ?_ (na_cons ?_ (na_cons ?_ na_nil)))))) fun us H2 e2 hl bs => ⟨by rw [hl]; decide, fun B hB => ⟨B, us, rfl, upd_same, hl, fun u hu => (bs u hu).ex (Evl.Ex.new hB), (ne_of_none (e2 _ _ ht12) hB).symm, e2.trans (Evl.Ex.new hB)⟩⟩
        · exact nl_l ht12 (el_cat (Evl.ev_var rfl) hg12 (Evl.el_lst (Evl.ea_cons Evl.ev_c Evl.ea_nil) (by show 1 ≤ 100000; omega)) (by show _ + 1 ≤ 100000; omega)) (by rw [List.length_append]; show _ + 1 ≤ 4000; omega) (last_app last_ints (last_one (last_int 0))) (lot_add rfl)
        · exact nl_l ht12 (el_catR (Evl.el_lst (Evl.ea_cons (Evl.ev_un Evl.ev_c Evl.ru_neg) Evl.ea_nil) (by show 1 ≤ 100000; omega)) (Evl.ev_var rfl) hg12 (by show 1 + _ ≤ 100000; omega)) (by rw [List.length_append]; show 1 + _ ≤ 4000; omega) (last_app (last_one (last_int _)) last_ints) (lot_pre rfl)
        · refine nl_if (Evl.et_test (ev_neNil (Evl.ev_var rfl) (sg (Evl.Ex.refl H12)))) (fun hb => ?_) (fun hb => nl_l ht12 (Evl.el_lst (Evl.ea_cons Evl.ev_c (Evl.ea_cons Evl.ev_c Evl.ea_nil)) (by show 2 ≤ 100000; omega)) (by show 2 ≤ 4000; omega) (last_app (xs := [.int 2]) (last_one (last_int 2)) (last_one (last_int 2))) (lot_twice (by decide)))
          refine nl_l ht12 (el_cat (Evl.ev_var rfl) hg12 (Evl.el_sl (Evl.ev_var rfl) Evl.eo_none (Evl.eo_some Evl.ev_c) (sg (Evl.Ex.refl H12))) ?_) ?_ (last_app last_ints ?_) (lot_twice ?_)
          · rw [cut1, List.length_take]
            omega
          · rw [List.length_append, cut1, List.length_take]
            omega
          · intro u hu
            rw [cut1] at hu
            exact last_ints u (List.mem_of_mem_take hu)
          · rw [cut1]
            cases rs with
            | nil => cases hb
            | cons x r =>
              intro hn
              rw [List.nodup_append] at hn
              exact hn.2.2 (.int x) List.mem_cons_self (.int x) List.mem_cons_self rfl
        · exact nl_l ht12 (el_cat (Evl.ev_var rfl) hg12 (Evl.el_lst (Evl.ea_cons Evl.ev_c Evl.ea_nil) (by show 1 ≤ 100000; omega)) (by show _ + 1 ≤ 100000; omega)) (by rw [List.length_append]; show _ + 1 ≤ 4000; omega) (last_app last_ints (last_one ⟨"bool", fun _ _ => .bl true⟩)) (lot_add rfl)
        · have es : Evl.given (rs.map V.int).length (fun _ => true) (fun j => V.str (toString (rs.getD j 0))) = rs.map fun x => V.str (toString x) := by
            rw [List.length_map]
            exact given_all rs 0 fun x => V.str (toString x)
          refine nl_l ht12 (xs := (rs.map fun x => V.str (toString x)) ++ [.str "1"]) (el_catLL ?_ (Evl.el_lst (Evl.ea_cons Evl.ev_c Evl.ea_nil) (by show 1 ≤ 100000; omega)) (by rw [List.length_map]; show _ + 1 ≤ 100000; omega)) (by rw [List.length_append, List.length_map]; show _ + 1 ≤ 4000; omega) (last_app (fun u hu => ?_) (last_one ⟨"str", fun _ _ => .str _⟩)) (lot_no (v := .str "1") (List.mem_append_right _ List.mem_cons_self) rfl)
          · rw [← es]
            refine Evl.el_lcL (fun _ => true) _ (Evl.ev_var rfl) (sg (Evl.Ex.refl H12)) (by omega) (fun _ => rfl) (fun _ _ _ _ _ => et_yes) fun j x H1 _ hx _ => ?_
            have hj : j < rs.length := by
              have := (List.getElem?_eq_some_iff.mp hx).1
              rwa [List.length_map] at this
            rw [List.getElem?_map, List.getElem?_eq_getElem hj] at hx
            cases hx
            have ed : rs.getD j 0 = rs[j] := by simp [List.getD_eq_getElem?_getD, hj]
            rw [ed]
            have hb := bd10 _ (List.getElem_mem hj)
            exact ev_str (Evl.ev_var rfl) (log_small hb.1 hb.2)
          · obtain ⟨x, _, rfl⟩ := List.mem_map.mp hu
            exact ⟨"str", fun _ _ => .str _⟩
        · exact nl_lists ht12 hg12 (by omega) rfl (fun _ => rfl) (fun _ => rfl)
      obtain ⟨B, us, rfl, hB, hus, bus, Bt, e13⟩ := hM
      have T13 := T12.ex e13
      have ht13 := e13 _ _ ht12
      have hg13 := e13 _ _ hg12
      have hSg := Evl.sq_of (K := K) hg13
      clear T12 ht12 sg hg12 e13
      -- bent, eight more
      refine Evl.q_cut (M := fun σ2 H14 => ∃ (B : Addr) (us : List V) (w13 : Option V), σ2 = [some (.ref a), some (.ref t), some (.int i), some v, some (.bl b), some lo, some hi, some (.bl (wi v lo hi)), some (.int z), some (.ref g), some (.ref g2), some (.ref B), w12, w13] ∧ H14 B = some (.lst us) ∧ us.length = 14 ∧ (∀ u ∈ us, Bad K t H14 u) ∧ B ≠ t ∧ Tub H14 t c (100 * i + 90)) ?_ fun σ2 H14 hM => ?_
      · refine set_cat (n := 8) (t := t) rfl hB (by omega) (na_cons ?_ (na_cons ?_ (na_cons ?_ (na_cons ?_ (na_cons ?_ (na_cons ?_ (na_cons ?_ (na_cons ?_ na_nil)))))))) fun ws H2 p e2 hp hn hl bs => ⟨p, us ++ ws, _, rfl, hp, by rw [List.length_append, hus, hl], fun u hu => (List.mem_append.mp hu).elim (fun h => (bus u h).ex e2) (bs u), (ne_of_none ht13 hn).symm, T13.ex e2⟩
        · exact nl_v Evl.ev_c fun _ _ => .no .non (by decide) (by decide)
        · exact nl_v Evl.ev_c fun _ _ => .no (.int 5) (by decide) (by decide)
        · exact nl_v Evl.ev_c fun _ _ => .no (.str _) (by decide) (by decide)
        · exact nl_dict ht13
        · exact nl_l ht13 (Evl.el_lst (Evl.ea_cons (Evl.ev_var rfl) Evl.ea_nil) (by show 1 ≤ 100000; omega)) (by show 1 ≤ 4000; omega) (last_one ⟨"list", fun H' k => .lst (Evl.sq_of (k _ _ gt hg13))⟩) (lot_no (v := .ref g) List.mem_cons_self rfl)
        · exact nl_l ht13 (el_cat (Evl.ev_var rfl) hg13 (Evl.el_lst (Evl.ea_cons Evl.ev_c Evl.ea_nil) (by show 1 ≤ 100000; omega)) (by show _ + 1 ≤ 100000; omega)) (by rw [List.length_append]; show _ + 1 ≤ 4000; omega) (last_app last_ints (last_one ⟨"NoneType", fun _ _ => .non⟩)) (lot_add rfl)
        · exact nl_tup ht13 hg13 rfl
        · have es : Evl.given (rs.map V.int).length (fun _ => true) (fun j => V.int (-(rs.getD j 0))) = rs.map fun x => V.int (-x) := by
            rw [List.length_map]
            exact given_all rs 0 fun x => V.int (-x)
          refine nl_l ht13 (xs := (rs.map fun x => V.int (-x)) ++ [.int (-7)]) (el_catLL ?_ (Evl.el_lst (Evl.ea_cons (Evl.ev_un Evl.ev_c Evl.ru_neg) Evl.ea_nil) (by show 1 ≤ 100000; omega)) (by rw [List.length_map]; show _ + 1 ≤ 100000; omega)) (by rw [List.length_append, List.length_map]; show _ + 1 ≤ 4000; omega) (last_app (fun u hu => ?_) (last_one (last_int _))) (lot_no (v := .int (-7)) (List.mem_append_right _ List.mem_cons_self) rfl)
          · rw [← es]
            refine Evl.el_lcL (fun _ => true) _ (Evl.ev_var rfl) hSg (by omega) (fun _ => rfl) (fun _ _ _ _ _ => et_yes) fun j x H1 _ hx _ => ?_
            have hj : j < rs.length := by
              have := (List.getElem?_eq_some_iff.mp hx).1
              rwa [List.length_map] at this
            rw [List.getElem?_map, List.getElem?_eq_getElem hj] at hx
            cases hx
            have ed : rs.getD j 0 = rs[j] := by simp [List.getD_eq_getElem?_getD, hj]
            rw [ed]
            exact Evl.ev_un (Evl.ev_var rfl) Evl.ru_neg
          · obtain ⟨x, _, rfl⟩ := List.mem_map.mp hu
            exact last_int _
      clear B us hB hus bus Bt T13 ht13 hg13 hSg
      obtain ⟨B, us, w13, rfl, hB, hus, bus, Bt, T14⟩ := hM
      -- none of them is a lot
      refine ⟨.ref t, rfl, .ref B, rfl, t, c, B, us, 100 * i + 90, rfl, T14, by omega, Bt, .inl (.inl hB), by omega, by omega, fun j u H15 hj k15 T15 => ⟨u, false, rfl, bus u (List.mem_of_getElem? hj) H15 k15, fun H16 e16 => ⟨false, false, rfl, rfl, _, rfl, iteF ?_⟩⟩⟩
      exact ⟨_, _, _, _, _, _, _, _, _, _, _, _, rfl, (T15.ex e16).mono (by omega)⟩
end
theorem perm3_rel {vs zs : List V} {us ws : List Value} (r : Vals zs ws) : Vals (perm3 vs zs) (perm3 us ws) := by
  match zs, ws, r with
  | [], [], .nil => exact .nil
  | [_], [_], .cons _ .nil => exact .nil
  | [_, _], [_, _], .cons _ (.cons _ .nil) => exact .nil
  | [_, _, _], [_, _, _], .cons a (.cons b (.cons c .nil)) => exact .cons b (.cons c (.cons a .nil))
  | _ :: _ :: _ :: _ :: _, _ :: _ :: _ :: _ :: _, .cons _ (.cons _ (.cons _ (.cons _ _))) => exact .nil
theorem all_mk {l : PySem.W.OpenLaw} {w : World} {K : PySem.W.Frag} {h : Heap} {mg : Str → Option Value} {fa fI fW fLs fRo fUn fO fT fS fP fR fA fL : Addr} (X : K.In h) (G : h.Ns mainGlobals mg) (hfa : mg "law" = some (.ref fa))
    {odI anI : Option Addr} {slI : Array (Option Value)} {ocI kVI dcI pmI cdI ctI : Value}
    (aI : PySem.W.nsIn K mainGlobals "is_integer" = some (some (.ref fI))) (lI : K.lookup fI = some ⟨ocI, odI, .func (PySem.W.fnOf "is_integer" "is_integer" (defArgs sInteger) (defBody sInteger) (defScope sInteger) .none kVI dcI pmI anI cdI ctI), slI⟩) (cI : PySem.W.codeIn K cdI "is_integer" = true) (kI : PySem.W.keepIn K (.ref fI) = true)
    {odW anW : Option Addr} {slW : Array (Option Value)} {ocW kVW dcW pmW cdW ctW : Value}
    (aW : PySem.W.nsIn K mainGlobals "is_within" = some (some (.ref fW))) (lW : K.lookup fW = some ⟨ocW, odW, .func (PySem.W.fnOf "is_within" "is_within" (defArgs sWithin) (defBody sWithin) (defScope sWithin) .none kVW dcW pmW anW cdW ctW), slW⟩) (cW : PySem.W.codeIn K cdW "is_within" = true) (kW : PySem.W.keepIn K (.ref fW) = true)
    {odLs anLs : Option Addr} {slLs : Array (Option Value)} {ocLs kVLs dcLs pmLs cdLs ctLs : Value}
    (aLs : PySem.W.nsIn K mainGlobals "is_list" = some (some (.ref fLs))) (lLs : K.lookup fLs = some ⟨ocLs, odLs, .func (PySem.W.fnOf "is_list" "is_list" (defArgs sList) (defBody sList) (defScope sList) .none kVLs dcLs pmLs anLs cdLs ctLs), slLs⟩) (cLs : PySem.W.codeIn K cdLs "is_list" = true) (kLs : PySem.W.keepIn K (.ref fLs) = true)
    {odRo anRo : Option Addr} {slRo : Array (Option Value)} {ocRo kVRo dcRo pmRo cdRo ctRo : Value}
    (aRo : PySem.W.nsIn K mainGlobals "is_row" = some (some (.ref fRo))) (lRo : K.lookup fRo = some ⟨ocRo, odRo, .func (PySem.W.fnOf "is_row" "is_row" (defArgs sRow) (defBody sRow) (defScope sRow) .none kVRo dcRo pmRo anRo cdRo ctRo), slRo⟩) (cRo : PySem.W.codeIn K cdRo "is_row" = true) (kRo : PySem.W.keepIn K (.ref fRo) = true)
    {odUn anUn : Option Addr} {slUn : Array (Option Value)} {ocUn kVUn dcUn pmUn cdUn ctUn : Value}
    (aUn : PySem.W.nsIn K mainGlobals "are_unlike" = some (some (.ref fUn))) (lUn : K.lookup fUn = some ⟨ocUn, odUn, .func (PySem.W.fnOf "are_unlike" "are_unlike" (defArgs sUn) (defBody sUn) (defScope sUn) .none kVUn dcUn pmUn anUn cdUn ctUn), slUn⟩) (cUn : PySem.W.codeIn K cdUn "are_unlike" = true) (kUn : PySem.W.keepIn K (.ref fUn) = true)
    {odO anO : Option Addr} {slO : Array (Option Value)} {ocO kVO dcO pmO cdO ctO : Value}
    (aO : PySem.W.nsIn K mainGlobals "is_lot" = some (some (.ref fO))) (lO : K.lookup fO = some ⟨ocO, odO, .func (PySem.W.fnOf "is_lot" "is_lot" (defArgs sLot) (defBody sLot) (defScope sLot) .none kVO dcO pmO anO cdO ctO), slO⟩) (cO : PySem.W.codeIn K cdO "is_lot" = true) (kO : PySem.W.keepIn K (.ref fO) = true)
    {odT anT : Option Addr} {slT : Array (Option Value)} {ocT kVT dcT pmT cdT ctT : Value}
    (aT : PySem.W.nsIn K mainGlobals "_law_tub" = some (some (.ref fT))) (lT : K.lookup fT = some ⟨ocT, odT, .func (PySem.W.fnOf "_law_tub" "_law_tub" (defArgs sTub) (defBody sTub) (defScope sTub) .none kVT dcT pmT anT cdT ctT), slT⟩) (cT : PySem.W.codeIn K cdT "_law_tub" = true) (kT : PySem.W.keepIn K (.ref fT) = true)
    {odS anS : Option Addr} {slS : Array (Option Value)} {ocS kVS dcS pmS cdS ctS : Value}
    (aS : PySem.W.nsIn K mainGlobals "_law_scoop" = some (some (.ref fS))) (lS : K.lookup fS = some ⟨ocS, odS, .func (PySem.W.fnOf "_law_scoop" "_law_scoop" (defArgs sScoop) (defBody sScoop) (defScope sScoop) .none kVS dcS pmS anS cdS ctS), slS⟩) (cS : PySem.W.codeIn K cdS "_law_scoop" = true) (kS : PySem.W.keepIn K (.ref fS) = true)
    {odP anP : Option Addr} {slP : Array (Option Value)} {ocP kVP dcP pmP cdP ctP : Value}
    (aP : PySem.W.nsIn K mainGlobals "_law_pick" = some (some (.ref fP))) (lP : K.lookup fP = some ⟨ocP, odP, .func (PySem.W.fnOf "_law_pick" "_law_pick" (defArgs sPick) (defBody sPick) (defScope sPick) .none kVP dcP pmP anP cdP ctP), slP⟩) (cP : PySem.W.codeIn K cdP "_law_pick" = true) (kP : PySem.W.keepIn K (.ref fP) = true)
    {odR anR : Option Addr} {slR : Array (Option Value)} {ocR kVR dcR pmR cdR ctR : Value}
    (aR : PySem.W.nsIn K mainGlobals "_law_stirred" = some (some (.ref fR))) (lR : K.lookup fR = some ⟨ocR, odR, .func (PySem.W.fnOf "_law_stirred" "_law_stirred" (defArgs sStirred) (defBody sStirred) (defScope sStirred) .none kVR dcR pmR anR cdR ctR), slR⟩) (cR : PySem.W.codeIn K cdR "_law_stirred" = true) (kR : PySem.W.keepIn K (.ref fR) = true)
    {odA anA : Option Addr} {slA : Array (Option Value)} {ocA kVA dcA pmA cdA ctA : Value}
    (aA : PySem.W.nsIn K mainGlobals "_law_any" = some (some (.ref fA))) (lA : K.lookup fA = some ⟨ocA, odA, .func (PySem.W.fnOf "_law_any" "_law_any" (defArgs sAny) (defBody sAny) (defScope sAny) .none kVA dcA pmA anA cdA ctA), slA⟩) (cA : PySem.W.codeIn K cdA "_law_any" = true) (kA : PySem.W.keepIn K (.ref fA) = true)
    {odL anL : Option Addr} {slL : Array (Option Value)} {ocL kVL dcL pmL cdL ctL : Value}
    (aL : PySem.W.nsIn K mainGlobals "law" = some (some (.ref fL))) (lL : K.lookup fL = some ⟨ocL, odL, .func (PySem.W.fnOf "law" "law" (defArgs sLaw) (defBody sLaw) (defScope sLaw) .none kVL dcL pmL anL cdL ctL), slL⟩) (cL : PySem.W.codeIn K cdL "law" = true) (kL : PySem.W.keepIn K (.ref fL) = true)
    (z_int : PySem.W.nsIn K mainGlobals "int" = some none)
    (z_len : PySem.W.nsIn K mainGlobals "len" = some none)
    (z_abs : PySem.W.nsIn K mainGlobals "abs" = some none)
    (z_list : PySem.W.nsIn K mainGlobals "list" = some none)
    (z_isinstance : PySem.W.nsIn K mainGlobals "isinstance" = some none)
    (z_bool : PySem.W.nsIn K mainGlobals "bool" = some none)
    (z_tuple : PySem.W.nsIn K mainGlobals "tuple" = some none)
    (z_all : PySem.W.nsIn K mainGlobals "all" = some none)
    (z_set : PySem.W.nsIn K mainGlobals "set" = some none)
    (z_range : PySem.W.nsIn K mainGlobals "range" = some none)
    (z_repr : PySem.W.nsIn K mainGlobals "repr" = some none)
    (z_dict : PySem.W.nsIn K mainGlobals "dict" = some none)
    (z_str : PySem.W.nsIn K mainGlobals "str" = some none)
    : ∃ fd : FuncData, (∀ (s : Shared) (v : Value), BindsTo s fd ⟨[v], []⟩ [("script", v)]) ∧ ∀ base : Heap, K.In base → base.Ns mainGlobals mg → FnG l.prog w K mg base 6 fa fd ["script"] (spLaw K) := by
  have e := hfa.symm.trans (PySem.W.mg_of X G aL)
  cases e
  have FI := fun_mk (st := sInteger) lI cI kI
  have bI := FI.binds (ps := ["value"]) fun _ _ _ _ _ _ us hl => match us, hl with | [_], _ => rfl
  have FW := fun_mk (st := sWithin) lW cW kW
  have bW := FW.binds (ps := ["value", "least", "most"]) fun _ _ _ _ _ _ us hl => match us, hl with | [_, _, _], _ => rfl
  have FLs := fun_mk (st := sList) lLs cLs kLs
  have bLs := FLs.binds (ps := ["value"]) fun _ _ _ _ _ _ us hl => match us, hl with | [_], _ => rfl
  have FRo := fun_mk (st := sRow) lRo cRo kRo
  have bRo := FRo.binds (ps := ["value", "least", "most"]) fun _ _ _ _ _ _ us hl => match us, hl with | [_, _, _], _ => rfl
  have FUn := fun_mk (st := sUn) lUn cUn kUn
  have bUn := FUn.binds (ps := ["value", "least"]) fun _ _ _ _ _ _ us hl => match us, hl with | [_, _], _ => rfl
  have FO := fun_mk (st := sLot) lO cO kO
  have bO := FO.binds (ps := ["value"]) fun _ _ _ _ _ _ us hl => match us, hl with | [_], _ => rfl
  have FT := fun_mk (st := sTub) lT cT kT
  have bT := FT.binds (ps := ["script"]) fun _ _ _ _ _ _ us hl => match us, hl with | [_], _ => rfl
  have FS := fun_mk (st := sScoop) lS cS kS
  have bS := FS.binds (ps := ["tub", "many"]) fun _ _ _ _ _ _ us hl => match us, hl with | [_, _], _ => rfl
  have FP := fun_mk (st := sPick) lP cP kP
  have bP := FP.binds (ps := ["tub", "some"]) fun _ _ _ _ _ _ us hl => match us, hl with | [_, _], _ => rfl
  have FR := fun_mk (st := sStirred) lR cR kR
  have bR := FR.binds (ps := ["tub", "some"]) fun _ _ _ _ _ _ us hl => match us, hl with | [_, _], _ => rfl
  have FA := fun_mk (st := sAny) lA cA kA
  have bA := FA.binds (ps := ["tub"]) fun _ _ _ _ _ _ us hl => match us, hl with | [_], _ => rfl
  have FL := fun_mk (st := sLaw) lL cL kL
  have kI := kbn_of FI (ps := ["value"]) 0 ["value"] (fun us ws => just1 us ws) (fun _ r => r) fun _ _ _ _ _ _ us ws h1 h2 => match us, ws, h1, h2 with | [], [_], _, _ => rfl
  have kO := kbn_of FO (ps := ["value"]) 0 ["value"] (fun us ws => just1 us ws) (fun _ r => r) fun _ _ _ _ _ _ us ws h1 h2 => match us, ws, h1, h2 with | [], [_], _, _ => rfl
  have kW := kbn_of FW (ps := ["value", "least", "most"]) 0 ["most", "value", "least"] (fun us ws => perm3 us ws) (fun _ r => perm3_rel r) fun _ _ _ _ _ _ us ws h1 h2 => match us, ws, h1, h2 with | [], [_, _, _], _, _ => rfl
  refine ⟨PySem.W.fnOf "law" "law" (defArgs sLaw) (defBody sLaw) (defScope sLaw) .none kVL dcL pmL anL cdL ctL, fun s v => .of_eq rfl, fun base _ _ => ?_⟩
  have n : ∀ {x : Str}, PySem.W.nsIn K mainGlobals x = some none → mg x = none := fun h => PySem.W.mg_none_of X G h
  have g : ∀ {x : Str} {f : Addr}, PySem.W.nsIn K mainGlobals x = some (some (.ref f)) → mg x = some (.ref f) := fun h => PySem.W.mg_of X G h
  have GI := ok_integer (P := l.prog) (w := w) (mg := mg) (base := base) (k := 0) FI (n z_isinstance) (n z_int) (n z_bool)
  have GW := ok_within (P := l.prog) (w := w) (mg := mg) (base := base) (k := 1) FW FI GI bI (g aI)
  have GLs := ok_list (P := l.prog) (w := w) (mg := mg) (base := base) (k := 0) FLs (n z_isinstance) (n z_list) (n z_tuple)
  have GRo := ok_row (P := l.prog) (w := w) (mg := mg) (base := base) (k := 2) FRo FW GW bW (g aW) FLs (GLs.mono (by decide)) bLs (g aLs) (n z_all)
  have GUn := ok_unlike (P := l.prog) (w := w) (mg := mg) (base := base) (k := 3) FUn FRo GRo bRo (g aRo) (n z_len) (n z_set)
  have GO := ok_lot (P := l.prog) (w := w) (mg := mg) (base := base) (k := 4) FO FUn GUn bUn (g aUn)
  have GT := ok_tub (P := l.prog) (w := w) (mg := mg) (base := base) (k := 0) FT (n z_int)
  have GS := ok_scoop (P := l.prog) (w := w) (mg := mg) (base := base) (k := 0) FS (n z_int) (n z_len) (n z_abs)
  have GP := ok_pick (P := l.prog) (w := w) (mg := mg) (base := base) (k := 1) FP FS GS bS (g aS) (n z_len)
  have GR := ok_stirred (P := l.prog) (w := w) (mg := mg) (base := base) (k := 1) FR FS GS bS (g aS) (n z_len) (n z_list)
  have GA := ok_any (P := l.prog) (w := w) (mg := mg) (base := base) (k := 2) FA FS (GS.mono (by decide)) bS (g aS) FP GP bP (g aP)
  exact ok_law (k := 5) FL FT (GT.mono (by decide)) bT (g aT) FS (GS.mono (by decide)) bS (g aS) FP (GP.mono (by decide)) bP (g aP) FR (GR.mono (by decide)) bR (g aR) FA (GA.mono (by decide)) bA (g aA)
    FI (GI.mono (by decide)) bI kI (g aI) FW (GW.mono (by decide)) bW kW (g aW) FO GO bO kO (g aO) (n z_range) (n z_repr) (n z_list) (n z_dict) (n z_tuple) (n z_str)
end Tl
end S_Ka
open PySem PySem.W PyProof.Rows
set_option maxRecDepth 100000 in
set_option maxHeartbeats 0 in
theorem PySem.Challenge.cw_threelanes_k02_integers_and_lots_holds : PySem.Challenge.rw_threelanes_k02_integers_and_lots.Holds := by
  w_on; o_law; k_head; (case hw => w_witness2)
  k_fill
  refine Tl.walk_g (l := PySem.Challenge.rw_threelanes_k02_integers_and_lots) (n := 63) (k := 6) (x := "script") (sp := fun w => Tl.spLaw _) rfl (by decide) rfl ⟨rfl, by decide, by decide⟩ (fun w h Y => PySem.W.kIn_of Y) ?F (fun _ _ a ns hl _ hS => ⟨a, ns, rfl, hS, hl, fun _ => rfl⟩)
  case F =>
    intro w mg fa h KX G hmg
    refine' Tl.all_mk KX G hmg ?aI ?lI ?cI ?kI ?aW ?lW ?cW ?kW ?aLs ?lLs ?cLs ?kLs ?aRo ?lRo ?cRo ?kRo ?aUn ?lUn ?cUn ?kUn ?aO ?lO ?cO ?kO ?aT ?lT ?cT ?kT ?aS ?lS ?cS ?kS ?aP ?lP ?cP ?kP ?aR ?lR ?cR ?kR ?aA ?lA ?cA ?kA ?aL ?lL ?cL ?kL ?z_int ?z_len ?z_abs ?z_list ?z_isinstance ?z_bool ?z_tuple ?z_all ?z_set ?z_range ?z_repr ?z_dict ?z_str
    (case aI => k_is); (case lI => k_is); (case cI => k_is); (case kI => k_is); (case aW => k_is); (case lW => k_is); (case cW => k_is); (case kW => k_is); (case aLs => k_is); (case lLs => k_is); (case cLs => k_is); (case kLs => k_is); (case aRo => k_is); (case lRo => k_is); (case cRo => k_is); (case kRo => k_is); (case aUn => k_is); (case lUn => k_is); (case cUn => k_is); (case kUn => k_is); (case aO => k_is); (case lO => k_is); (case cO => k_is); (case kO => k_is); (case aT => k_is); (case lT => k_is); (case cT => k_is); (case kT => k_is); (case aS => k_is); (case lS => k_is); (case cS => k_is); (case kS => k_is); (case aP => k_is); (case lP => k_is); (case cP => k_is); (case kP => k_is); (case aR => k_is); (case lR => k_is); (case cR => k_is); (case kR => k_is); (case aA => k_is); (case lA => k_is); (case cA => k_is); (case kA => k_is); (case aL => k_is); (case lL => k_is); (case cL => k_is); (case kL => k_is); (case z_int => k_is); (case z_len => k_is); (case z_abs => k_is); (case z_list => k_is); (case z_isinstance => k_is); (case z_bool => k_is); (case z_tuple => k_is); (case z_all => k_is); (case z_set => k_is); (case z_range => k_is); (case z_repr => k_is); (case z_dict => k_is); (case z_str => k_is)
