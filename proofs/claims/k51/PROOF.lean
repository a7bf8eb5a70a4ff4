import PyProof.Rows.All
import Wide.All
import OpenK.AllK
import Wide.FinOn
import HandS.ForMost
import HandS.Evl
import HandS.IsInst
import HandS.TupLe
import HandS.Conv
import HandS.SetFor
import HandS.Zip
import HandS.Defaults
import KE.KEqSeq
import PyProof.ReprRoads
import HandS.Star
import HandS.More
import KE.KSuper
import HandS.Zip0
import KE.KDictZip
import HandS.SortInts
import HandS.TupAny
import HandS.Iter
import KE.GoesEnum
import HandS.Walk
import HandS.DictComp
import HandS.Exc
import HandS.Lambda
import HandS.TryOnly
import HandS.Call
import KE.KExcIs
import HandS.ForSpec
import HandS.ExcOwn
import HandS.EndTab
import HandS.SortKw
import KE.KMinKey
import KE.DatumOrd
import HandS.Strs
import HandS.Text
import HandS.StrMore
import HandS.ExcInit
import HandS.OwnEq
import PyProof.InstNe
import PyProof.DefStmt
import PyProof.StrOps2
import PyProof.FitsStr
import PyProof.SliceStr2
import HandS.Style
import HandS.TupMul
import HandS.MethStar
import HandS.Dict
import KE.KDictDisplayH
import KE.KeyNested
import HandS.ExcIs
import PySem.Challenge.RW_threelanes_k51_whole_colours_of_a_line_j
set_option Elab.async false
set_option linter.all false
set_option maxRecDepth 100000
section S_Ru
namespace Tl
open PySem PySem.Spec PyProof.Rows L2
/-! ### len(set(x)) of a list or a tuple of ints, unlike or not -/
theorem met_len (ns : List Int) : ∀ i, i ≤ ns.length → ((firstMet (fun i => ns.getD i 0) i).length = i ↔ (ns.take i).Nodup) ∧ ∀ k, k ∈ firstMet (fun i => ns.getD i 0) i ↔ k ∈ ns.take i
  | 0, _ => by
    rw [firstMet_zero]
    simp
  | i + 1, h => by
    have hi : i < ns.length := h
    obtain ⟨a1, a2⟩ := met_len ns i (Nat.le_of_lt hi)
    have ex : ns.getD i 0 = ns[i] := by simp [List.getD_eq_getElem?_getD, hi]
    have et : ns.take (i + 1) = ns.take i ++ [ns[i]] := by rw [List.take_add_one, List.getElem?_eq_getElem hi] <;> rfl
    have eb : (firstMet (fun i => ns.getD i 0) i).any (· == ns[i]) = true ↔ ns[i] ∈ ns.take i := by
      rw [List.any_eq_true]
      constructor
      · intro ⟨x, hx, he⟩
        rw [← beq_iff_eq.mp he]
        exact (a2 x).mp hx
      · intro hx
        exact ⟨_, (a2 _).mpr hx, beq_self_eq_true _⟩
    have le := firstMet_length_le (fun i => ns.getD i 0) i
    rw [firstMet_succ, et]
    show ((step_dedup _ (ns.getD i 0)).length = i + 1 ↔ _) ∧ _
    rw [ex]
    unfold step_dedup
    have nd : (ns.take i ++ [ns[i]]).Nodup ↔ (ns.take i).Nodup ∧ ns[i] ∉ ns.take i := by
      rw [List.nodup_append]
      simp
      exact fun _ => ⟨fun y z => y _ z rfl, fun y a ha e => y (e ▸ ha)⟩
    by_cases hm : ns[i] ∈ ns.take i
    · rw [if_pos (eb.mpr hm)]
      refine ⟨⟨fun e => by omega, fun e => absurd hm (nd.mp e).2⟩, fun k => ?_⟩
      rw [a2 k, List.mem_append, List.mem_singleton]
      exact ⟨.inl, fun z => z.elim id fun e => e ▸ hm⟩
    · rw [if_neg (fun z => hm (eb.mp z))]
      refine ⟨?_, fun k => ?_⟩
      · rw [List.length_append, List.length_singleton, nd]
        exact ⟨fun e => ⟨a1.mp (by omega), hm⟩, fun e => by rw [a1.mpr e.1]⟩
      · rw [List.mem_append, List.mem_append, a2 k]
def tLenSetN (K : PySem.W.Frag) (ta : TE) : TE := fun σ H Q => ta σ H fun x H1 => ∃ (l : Addr) (ns : List Int), x = .ref l ∧ SqL K H1 l (ns.map V.int) ∧ ns.length ≤ 4000 ∧ ∀ c : Nat, (c = ns.length ↔ ns.Nodup) → Q (.int (c : Int)) H1
theorem pe_lenSetN {X : Cx} {a : Expr} {ta : TE} {p p2 q pos : Pos} (hg : Gl X "len") (hm : X.mg "len" = none) (hg2 : Gl X "set") (hm2 : X.mg "set" = none) (ha : PE X a ta) (hc : X.calm = true := by rfl)
    (na : starEach [a] X.env = (false, eval a X.env) :: starEach [] X.env := by rfl) : PE X (.Call (.Name "len" p) [.Call (.Name "set" p2) [a] [] q] [] pos) (tLenSetN X.K ta) := by
  constructor
  intro pins s σ H Q I h
  refine Call_ (ld_blt I hg hm boot_len (callWith_builtin1 (args_cons (Call_ (ld_blt I hg2 hm2 boot_set (callWith_type1 (args_cons (thn (ha.run pins s σ H _ I h) fun v s1 hv => args_nil ?_) na) na rfl))) rfl) rfl rfl))
  obtain ⟨x, H1, I1, r1, l, ns, rfl, hq, hl, q1⟩ := hv
  cases r1
  obtain ⟨its, r, pl, hz⟩ := I1.list hq
  have hn : its.toArray.size = ns.length := by rw [List.size_toArray, ← r.length, List.length_map]
  refine call_set_list (I1.ok.hd hc) pl.isList (by simpa using RZ.intsAre_vals r) (by rw [hn]; unfold scanBound; omega) fun h' tk hS hk => args_nil ?_
  obtain ⟨o, es, ep, t, ho, hex, hd, _, _, hb, hf, hsz⟩ := hS
  have I2 : Inv X pins σ H1 { s1 with heap := h', toks := tk } := I1.kept fun b o e => hk b o (Heap.lt_size e) e
  refine call_len_set ho hex hd hf (by unfold scanBound at hb; omega) ⟨.int es.size, H1, I2.tok _, ⟨_, rfl⟩, q1 es.size ?_⟩
  rw [hsz, hn]
  have e := (met_len ns ns.length (Nat.le_refl _)).1
  rwa [List.take_length] at e
/-- the same of a tuple -/
def tLenSetU (K : PySem.W.Frag) (ta : TE) : TE := fun σ H Q => ta σ H fun x H1 => ∃ (l : Addr) (ns : List Int), x = .ref l ∧ SqT K H1 l (ns.map V.int) ∧ ns.length ≤ 4000 ∧ ∀ c : Nat, (c = ns.length ↔ ns.Nodup) → Q (.int (c : Int)) H1
theorem nodup_same {as bs : List Int} (ha : as.Nodup) (hm : ∀ k, k ∈ bs ↔ k ∈ as) : as.length = bs.length ↔ bs.Nodup := by
  have sub : ∀ (as bs : List Int), as.Nodup → (∀ k, k ∈ as → k ∈ bs) → as.length ≤ bs.length := by
    intro as
    induction as with
    | nil => intro bs _ _; exact Nat.zero_le _
    | cons a r ih =>
      intro bs hn hs
      rw [List.nodup_cons] at hn
      have h1 : a ∈ bs := hs a List.mem_cons_self
      have h2 := ih (bs.erase a) hn.2 fun k hk => by
        have hne : k ≠ a := fun e => hn.1 (e ▸ hk)
        exact (List.mem_erase_of_ne hne).mpr (hs k (List.mem_cons_of_mem _ hk))
      rw [List.length_erase_of_mem h1] at h2
      have h3 : 0 < bs.length := List.length_pos_of_mem h1
      rw [List.length_cons]
      omega
  have strict : ∀ (bs as : List Int), as.Nodup → (∀ k, k ∈ as → k ∈ bs) → ¬ bs.Nodup → as.length < bs.length := by
    intro bs
    induction bs with
    | nil => intro as _ _ h; exact absurd List.nodup_nil h
    | cons b r ih =>
      intro as hn hs hb
      rw [List.length_cons]
      by_cases hbr : b ∈ r
      · have := sub as r hn fun k hk => by
          rcases List.mem_cons.mp (hs k hk) with e | e
          · rw [e]; exact hbr
          · exact e
        omega
      · have hr : ¬ r.Nodup := fun z => hb (List.nodup_cons.mpr ⟨hbr, z⟩)
        have h1 := ih (as.erase b) (hn.erase b) (fun k hk => by
          have h2 := hn.mem_erase_iff.mp hk
          rcases List.mem_cons.mp (hs k h2.2) with e | e
          · exact absurd e h2.1
          · exact e) hr
        by_cases ha : b ∈ as
        · rw [List.length_erase_of_mem ha] at h1
          omega
        · rw [List.erase_of_not_mem ha] at h1
          omega
  constructor
  · intro e
    apply Classical.byContradiction
    intro h
    have := strict bs as ha (fun k hk => (hm k).mpr hk) h
    omega
  · intro hb
    have h1 := sub as bs ha fun k hk => (hm k).mpr hk
    have h2 := sub bs as hb fun k hk => (hm k).mp hk
    omega
theorem pe_lenSetU {X : Cx} {a : Expr} {ta : TE} {p p2 q pos : Pos} (hg : Gl X "len") (hm : X.mg "len" = none) (hg2 : Gl X "set") (hm2 : X.mg "set" = none) (ha : PE X a ta) (hc : X.calm = true := by rfl)
    (na : starEach [a] X.env = (false, eval a X.env) :: starEach [] X.env := by rfl) : PE X (.Call (.Name "len" p) [.Call (.Name "set" p2) [a] [] q] [] pos) (tLenSetU X.K ta) := by
  constructor
  intro pins s σ H Q I h
  refine Call_ (ld_blt I hg hm boot_len (callWith_builtin1 (args_cons (Call_ (ld_blt I hg2 hm2 boot_set (callWith_type1 (args_cons (thn (ha.run pins s σ H _ I h) fun v s1 hv => args_nil ?_) na) na rfl))) rfl) rfl rfl))
  obtain ⟨x, H1, I1, r1, l, ns, rfl, hq, hl, q1⟩ := hv
  cases r1
  obtain ⟨its, r, pl, hz⟩ := I1.tuple hq
  refine call_set_tupI ns (I1.ok.hd hc) pl (by simpa using RZ.intsAre_vals r) (by unfold scanBound; omega) fun h' tk c hS hcl hk => args_nil ?_
  obtain ⟨o, es, ep, t, ho, hex, hd, _, hnd, hS2, hb, hf, hsz, _⟩ := hS
  have I2 : Inv X pins σ H1 { s1 with heap := h', toks := tk } := I1.kept hk
  refine call_len_set ho hex hd hf (by unfold scanBound at hb; omega) ⟨.int es.size, H1, I2.tok _, ⟨_, rfl⟩, q1 es.size ?_⟩
  have e := nodup_same (bs := ns) hnd fun k => by
    rw [← hS2 k]
    simp
  rwa [List.length_map, Array.length_toList] at e
/-! ### repr of data, where no repr is under way -/
def rRepr (K : PySem.W.Frag) : List V → Hp → VK → Prop := fun xs H Q => ∃ (a : Addr) (d : PyData), xs = [.ref a] ∧ Dp K H (.ref a) d ∧ d.showable = true ∧ d.hasDict = false ∧ d.depth ≤ 20 ∧ d.shown.length ≤ sizeLine ∧ Q (.str d.shown) H
theorem call_reprD {X : Cx} (hg : X.A.guards = some []) (hu : X.A.units + 64 < cLine) : CallR X (.builtin "repr") (rRepr X.K) := by
  intro pins s σ H xs us Q I r h
  obtain ⟨a, d, rfl, hd, hs, hn, hp, hz, q⟩ := h
  obtain ⟨u, rfl, ru⟩ := vals1 r
  cases ru
  obtain ⟨as, rd⟩ := Dp.reads I d _ _ hd rfl
  exact repr_of_reads' rd hs (PyData.noDict_hsm hn) hg (by omega) (fun _ _ e => e) (fun h' u tk hk => ⟨.str d.shown, H, I.kept hk, ⟨_, rfl⟩, q⟩) hz
/-! ### a call by keywords alone -/
theorem kbn_of {K : PySem.W.Frag} {x qual : Str} {st : Stmt} {f : Addr} {fd : FuncData} {ps : List Str} (F : Fun K x qual st f fd) (n : Nat) (ks : List Str) (g : {α : Type} → List α → List α → List α)
    (rel : ∀ {vs zs : List V} {us ws : List Value}, Vals vs us → Vals zs ws → Vals (g vs zs) (g us ws))
    (h : ∀ (kV doc pm : Value) (an : Option Addr) (cdv ct : Value) (us ws : List Value), us.length = n → ws.length = ks.length → bindArgs (PySem.W.fnOf x qual (defArgs st) (defBody st) (defScope st) .none kV doc pm an cdv ct) ⟨us, ks.zip ws⟩ = pure (ps.zip (g us ws))) :
    KBn K fd ps n ks (fun us ws => g us ws) (fun vs zs => g vs zs) := by
  obtain ⟨_, _, kV, doc, pm, an, cdv, ct, _, rfl, _, _⟩ := F.ex
  exact ⟨fun s us ws _ l1 l2 => .of_eq (h kV doc pm an cdv ct us ws l1 l2), rel⟩
theorem pe_callN0 {X : Cx} {CX : CXT} {k : Nat} {f : Addr} {fd : FuncData} {ps ks : List Str} {sp : Sp} {E : XK} {x : Str} {p pos : Pos} {kws : List Keyword} {tk : TA} {g : List Value → List Value → List Value} {gV : List V → List V → List V}
    (F : FnOk X.prog X.w X.K X.mg X.base CX k f fd ps sp) (hr : Room k X.A) (hg : Gl X x) (hm : X.mg x = some (.ref f)) (hk : PySem.W.keepIn X.K (.ref f) = true) (hb : KBn X.K fd ps 0 ks g gV) (hx : Passes CX X E)
    (hkw : PK X kws tk) (hall : (backToKw pos (keywordEach kws X.env)).all (·.1.isSome) = true := by rfl) (hks : (backToKw pos (keywordEach kws X.env)).filterMap (·.1) = ks := by rfl) (hdb : (x == ("__debug__" : Str)) = false := by decide)
    (hpl : ((backTo pos (starEach [] X.env)).any (·.1) || (backToKw pos (keywordEach kws X.env)).any (·.1.isNone)) = false := by rfl) :
    PE X (.Call (.Name x p) [] kws pos) (tCallN 0 ks.length sp gV E tNil tk) := by
  constructor
  intro pins s σ H Q I h
  refine wpAny_Call_Name_kw (ld_glob I hg hm (PySem.W.callWith_KW0 (h₀ := X.base) I.ok.mod.kin hk hall (thn (hkw.run pos pins s σ H _ I h) fun ws s2 hv => ?_) hpl) hdb)
  obtain ⟨zs, H2, I2, rz, l1, l2, q2⟩ := hv
  refine ⟨I2.kIn, ?_⟩
  rw [hks]
  exact run_fnN (us := []) (vs := []) F hr hb hx I2 .nil rz rfl l2 q2
/-! ### defs that are called where no repr is under way -/
structure FnG (P : Program) (w : World) (K : PySem.W.Frag) (mg : Str → Option Value) (base : Heap) (k : Nat) (f : Addr) (fd : FuncData) (ps : List Str) (sp : Sp) : Prop where
  len : ∀ {vs H Q E}, sp vs H Q E → vs.length = ps.length
  go : ∀ {A : Around} {outer : List Env} {s : Shared} {H : Hp} {args : Args} {us : List Value} {vs : List V} {Q : VK} {E : XK}, A.guards = some [] → Room k A → Env0 P w K mg base A outer s H → BindsTo s fd args (ps.zip us) → Vals vs us →
    sp vs H Q E → codeAny (model P w) A (.call (.ref f) args) (CR CX0 outer P w H s Q E) s
theorem fn_g {P : Program} {w : World} {K : PySem.W.Frag} {mg : Str → Option Value} {base : Heap} {x qual : Str} {st : Stmt} {f : Addr} {fd : FuncData} {N ps : List Str} {k : Nat} {sp : Sp} (F : Fun K x qual st f fd) (S : FnScope N ps (defScope st))
    (len : ∀ {vs H Q E}, sp vs H Q E → vs.length = ps.length)
    (hbody : ∀ (cdv : Value) (A : Around) (outer : List Env) (s : Shared) (H : Hp) (vs : List V) (Q : VK) (E : XK), A.guards = some [] → Room k (A.deeper (envOfC qual (defScope st) s.heap.objs.size f cdv)) → sp vs H Q E →
      ∃ t, PSs (cxOf CX0 P w K mg base N qual (defScope st) f cdv A outer s H E).nox (defBody st) t ∧ t { nx := fun _ H' => Q .non H', rt := Q } (start N vs) H) : FnG P w K mg base (k + 1) f fd ps sp := by
  obtain ⟨oc, od, kV, doc, pm, an, cdv, ct, osl, rfl, lk, hcd⟩ := F.ex
  refine ⟨len, fun {A outer s H args us vs Q E} hgd hr e0 hb r hsp => ?_⟩
  have kin : K.In s.heap := e0.mod.kin.keeps fun b o e => (e0.bs b o e).1
  have nl : s.heap.NoLimit := e0.mod.nolimit.keeps fun b o e => (e0.bs b o e).1
  refine codeAny_call_function hr.depth (kin _ _ lk) rfl S.co S.gen rfl (PySem.W.codeRec_of kin hcd) (hb _ _ _ _ (wpAny_newFunctionEnv_cells S.kind ?_ fun env he s1 x => ?_))
  · intro y hy
    have hp : y.1 ∈ ps := (List.of_mem_zip (a := y.1) (b := y.2) hy).1
    exact (S.par y.1 hp).imp id fun q => ⟨q, PySem.W.cellsFrom_some _ _ _ (.inl q)⟩
  · cases he
    obtain ⟨t, ht, hq⟩ := hbody cdv A outer s H vs Q E hgd (hr.deeper _) hsp
    have I := inv_start (CX := CX0) (P := P) (w := w) (base := base) (E := E) (qual := qual) (f := f) (cd := cdv) S hr.hd e0 (len hsp) r x
    refine ⟨nl.keeps x.toInCall.keep, codeAny_func (wpAny_mono (ht.nox.run [] s1 (start N vs) H _ I hq) (fun fl s' hs => ?_) fun _ _ hs => hs)⟩
    cases fl with
    | ret u =>
      obtain ⟨v, σ', H', J, rv, q⟩ := hs
      exact ⟨v, H', J.os, J.bare, J.base, J.hok, rv, q⟩
    | next =>
      obtain ⟨σ', H', J, q⟩ := hs
      exact ⟨.non, H', J.os, J.bare, J.base, J.hok, rfl, q⟩
    | brk => exact hs.elim fun _ h => h.elim fun _ h => h.2.elim
    | cont => exact hs.elim fun _ h => h.elim fun _ h => h.2.elim
/-- the call of the law itself: at its own room no repr is under way -/
theorem law_g {P : Program} {w : World} {K : PySem.W.Frag} {mg mb : Str → Option Value} {k : Nat} {fa a : Addr} {fd : FuncData} {x : Str} {sp : Sp} {s₁ : Shared} {vs : List Value} {ns : List Int}
    (kin : K.In s₁.heap) (hns : s₁.heap.Ns mainGlobals mg) (hb : s₁.heap.Ns builtinsNs mb) (hbb : ∀ x : Str, x ≠ "__name__" → mb x = bootBuiltins x) (hlim : s₁.heap.NoLimit) (hg : s₁.gens = #[])
    (ha : s₁.heap.get? a = some { cls := .type "list", data := .seq vs.toArray }) (hi : IntsAre vs ns) (hl : ns.length ≤ sizeLine) (hr : Room k callerA)
    (F : ∀ base : Heap, K.In base → base.Ns mainGlobals mg → FnG P w K mg base k fa fd [x] sp) (hbind : ∀ (s : Shared) (u : Value), BindsTo s fd ⟨[u], []⟩ [(x, u)])
    (hsp : ∀ H : Hp, Only H → SqL K H a (ns.map V.int) → sp [.ref a] H (fun v _ => v = .bl true) fun _ _ _ => False) :
    codeAny (model P w) callerA (.call (.ref fa) ⟨[.ref a], []⟩) (fun r s' => r = .ok (.ret (.bool true)) ∧ OldK s₁.heap s'.heap ∧ s'.os = s₁.os ∧ AllBare s'.gens) s₁ := by
  have rv := vals_ints hi
  have run : ∀ H : Hp, Only H → SqL K H a (ns.map V.int) → HOk P w H s₁.heap → (∀ b u, H b = some u → b = a ∧ K.lookup a = none) →
      codeAny (model P w) callerA (.call (.ref fa) ⟨[.ref a], []⟩) (fun r s' => r = .ok (.ret (.bool true)) ∧ OldK s₁.heap s'.heap ∧ s'.os = s₁.os ∧ AllBare s'.gens) s₁ := by
    intro H hO hS hok hA
    have none_of : ∀ b : Addr, (b = a → K.lookup a ≠ none) → H b = none := fun b hb => by
      cases q : H b with
      | none => rfl
      | some u =>
        obtain ⟨e1, e2⟩ := hA b u q
        exact absurd e2 (hb e1)
    have ns_of : ∀ {b : Addr} {m : Str → Option Value}, s₁.heap.Ns b m → (hidT s₁.heap H).Ns b m := fun {b m} hm => by
      obtain ⟨o, es, ep, e, d, r⟩ := hm
      refine ⟨o, es, ep, hidT_get e ?_, d, r⟩
      cases q : H b with
      | none => rfl
      | some u =>
        obtain ⟨e1, _⟩ := hA b u q
        rw [e1, ha] at e
        cases e
        exact absurd d (by intro z; cases z)
    have kb : K.In (hidT s₁.heap H) := fun b o e => hidT_get (kin b o e) (none_of b fun e1 z => by
      rw [e1, z] at e
      cases e)
    have hM : Mod K mg (hidT s₁.heap H) := ⟨kb, ns_of hns, ⟨mb, ns_of hb, hbb⟩, hlim.elim fun mc h => ⟨mc, ns_of h.1, h.2⟩⟩
    have e0 : Env0 P w K mg (hidT s₁.heap H) callerA [] s₁ H := ⟨rfl, hM, fun _ _ e => of_hidT e, by rw [hidT_size] <;> exact Nat.le_refl _, trivial, fun _ hb => (nomatch hb), hok, .of_eq hg⟩
    refine codeAny_mono ((F _ kb (ns_of hns)).go rfl hr e0 (us := [.ref a]) (hbind s₁ (.ref a)) (vs := [.ref a]) (.cons rfl .nil) (hsp H hO hS)) fun r s' h => ?_
    match r, h with
    | .ok (.ret u), h =>
      obtain ⟨v, H', os, bare, un, hok', r', q⟩ := h
      cases (show v = .bl true from q)
      cases (show u = Value.bool true from r')
      refine ⟨rfl, OldK.of_keep fun b o e => ?_, os, bare⟩
      rcases hO b with z | ⟨ob, xs, z⟩
      · exact un.keep b o e z (fun y => (nomatch y)) (fun y => (nomatch y))
      · obtain ⟨e1, _⟩ := hok b _ z
        obtain ⟨e2, _⟩ := hok' b _ (un.frzs b ob _ z)
        rw [e] at e1
        cases e1
        exact e2
    | .error e, h => exact False.elim h
    | .ok .next, h => exact False.elim h
    | .ok .brk, h => exact False.elim h
    | .ok .cont, h => exact False.elim h
  cases hk : K.lookup a with
  | some o =>
    have e := kin a o hk
    rw [ha] at e
    cases e
    refine run (fun _ => none) (fun _ => .inl rfl) (.inr ⟨_, vs.toArray, _, hk, rfl, rfl, rfl, ?_, by simpa using rv⟩) (fun b u z => (nomatch z)) (fun b u z => (nomatch z))
    rw [List.size_toArray, hi.length]
    exact hl
  | none =>
    have at_a : ∀ b u, (if b = a then some (HO.frz { cls := .type "list", data := .seq vs.toArray } (.lst (ns.map V.int))) else none) = some u → b = a ∧ u = HO.frz { cls := .type "list", data := .seq vs.toArray } (.lst (ns.map V.int)) := fun b u z => by
      by_cases hb : b = a
      · rw [if_pos hb] at z
        exact ⟨hb, (Option.some.inj z).symm⟩
      · rw [if_neg hb] at z
        cases z
    refine run (fun b => if b = a then some (.frz { cls := .type "list", data := .seq vs.toArray } (.lst (ns.map V.int))) else none) (fun b => ?_) (.inl (.inr ⟨_, if_pos rfl⟩)) (fun b u z => ?_) fun b u z => ⟨(at_a b u z).1, hk⟩
    · by_cases hb : b = a
      · exact .inr ⟨_, _, if_pos hb⟩
      · exact .inl (if_neg hb)
    · obtain ⟨e1, e2⟩ := at_a b u z
      subst e1
      subst e2
      exact ⟨ha, by rw [List.length_map]; exact hl, vs, _, rv, ha⟩
theorem walk_g {l : PySem.W.OpenLaw} {n k : Nat} {q : Program} {loose : List Str} {XP : (Str → Option Value) → Heap → Prop} {YP : World → Heap → Prop} {d : DefRec} {K : Params → PySem.W.Frag} {sp : World → Sp} {x : Str}
    (hn : l.most = some n) (hn2 : n ≤ sizeLine) (hdf : d.params.defaults = []) (hr : Room k callerA) (hY : ∀ (w : World) (h : Heap), YP w h → (K w.params).In h)
    (F : ∀ (w : World) (mg : Str → Option Value) (fa : Addr) (h : Heap), (K w.params).In h → h.Ns mainGlobals mg → mg d.name = some (.ref fa) →
      ∃ fd : FuncData, (∀ (s : Shared) (u : Value), BindsTo s fd ⟨[u], []⟩ [(x, u)]) ∧ ∀ base : Heap, (K w.params).In base → base.Ns mainGlobals mg → FnG l.prog w (K w.params) mg base k fa fd [x] (sp w))
    (hsp : ∀ (w : World) (H : Hp) (a : Addr) (ns : List Int), ns.length ≤ n → Only H → SqL (K w.params) H a (ns.map V.int) → sp w [.ref a] H (fun v _ => v = .bl true) fun _ _ _ => False) :
    PySem.W.WalkO q loose XP YP l.row.toRowW d [] (fun f vs => PySem.call f vs) := by
  refine Att.attach_call hn hdf fun w s₀ s₁ mg mb fa o pm cd doc a vs ns G Y ho hd hcd hmg hobj hints hlen hg => ?_
  obtain ⟨fd, h1, h2⟩ := F w mg fa _ (hY w _ Y) G.T.g hmg
  exact law_g (hY w _ Y) G.T.g G.T.b G.T.builtins G.T.nolimit hg hobj hints (Nat.le_trans hlen hn2) hr h2 h1 fun H hO hS => hsp w H a ns hlen hO hS
end Tl
end S_Ru
section S_Su
namespace Tl
open PySem PySem.Spec PyProof.Rows L2
/-! ### a method of a class that begins with super().__init__(..) -/
/-- names of such a def: locals first, no cell, the class's own cell free -/
structure SuScope (N P : List Str) (sc : Scope) : Prop where
  kind : sc.kind = .function
  co : sc.isCoroutine = false
  gen : sc.isGenerator = false
  nd : N.Nodup
  pre : N.take P.length = P
  par : ∀ x ∈ P, sc.names.lookup x = some .local
  nocell : ∀ y ∈ sc.names, y.2 ≠ .cell
  free : ∀ y ∈ sc.names, y.2 = .free → y.1 = "__class__"
  cls : sc.names.lookup ("__class__" : Str) = some .free
  sup : sc.names.lookup ("super" : Str) = some .globalImplicit
/-- the context of such a def's body -/
def suCx (P : Program) (w : World) (K : PySem.W.Frag) (mg : Str → Option Value) (base : Heap) (N : List Str) (qual : Str) (scope : Scope) (f : Addr) (cd : Value) (cc : Addr) (A : Around) (outer : List Env) (s : Shared) (H : Hp) (E : XK) : Cx where
  prog := P
  w := w
  K := K
  mg := mg
  base := base
  A := A.deeper (PySem.W.ksEnv qual scope s.heap.objs.size f cd cc)
  N := N
  s_0 := s
  H_0 := H
  env := PySem.W.ksEnv qual scope s.heap.objs.size f cd cc
  outer := outer
  stack := PySem.W.ksEnv qual scope s.heap.objs.size f cd cc :: outer
  ex := []
  calm := true
  fn := fun _ => false
  pn := []
  xe := fun _ _ => False
theorem lookup_rev {ps : List Str} {us : List Value} (nd : ps.Nodup) {i : Nat} {y : Str} {u : Value} (h1 : ps[i]? = some y) (h2 : us[i]? = some u) : (ps.zip us).reverse.lookup y = some u := by
  have hm : (y, u) ∈ (ps.zip us).reverse := by
    rw [List.mem_reverse]
    refine List.mem_of_getElem? (i := i) ?_
    rw [List.getElem?_zip_eq_some]
    exact ⟨h1, h2⟩
  have key : ∀ (l : List (Str × Value)), (l.map (·.1)).Nodup → (y, u) ∈ l → l.lookup y = some u := by
    intro l
    induction l with
    | nil => intro _ h; cases h
    | cons p r ih =>
      intro hn h
      rw [List.map_cons, List.nodup_cons] at hn
      rcases List.mem_cons.mp h with e | e
      · rw [← e, List.lookup_cons, beq_self_eq_true]
      · have hne : y ≠ p.1 := fun z => hn.1 (z ▸ List.mem_map_of_mem (f := (·.1)) e)
        rw [List.lookup_cons, beq_eq_false_iff_ne.mpr hne]
        exact ih hn.2 e
  refine key _ ?_ hm
  rw [List.map_reverse]
  refine List.pairwise_reverse.mpr (List.Pairwise.imp (fun h => Ne.symm h) ?_)
  refine (nd.sublist ?_)
  clear hm key h1 h2 nd
  induction ps generalizing us with
  | nil => exact List.Sublist.refl _
  | cons p r ih =>
    cases us with
    | nil => exact List.nil_sublist _
    | cons v t => exact (ih (us := t)).cons₂ p
theorem su_start {P : Program} {w : World} {K : PySem.W.Frag} {mg : Str → Option Value} {base : Heap} {N ps : List Str} {qual : Str} {scope : Scope} {f cc D : Addr} {cd cl : Value} {cld : Option Addr} {csl : Array (Option Value)} {A : Around} {outer : List Env} {s : Shared} {h₁ : Heap} {tk : Nat} {H : Hp} {E : XK} {us : List Value} {vs : List V}
    (S : SuScope N ps scope) (hcell : K.lookup cc = some ⟨cl, cld, .cell (some (.ref D)), csl⟩) (hd : A.handled = none) (e0 : Env0 P w K mg base A outer s H) (hl : vs.length = ps.length) (r : Vals vs us)
    (hns : h₁.Ns s.heap.objs.size fun x => (ps.zip us).reverse.lookup x) (kp : ∀ b o, s.heap.get? b = some o → h₁.get? b = some o) :
    Inv (suCx P w K mg base N qual scope f cd cc A outer s H E) [] (L2.start N vs) H { s with heap := h₁, toks := tk } := by
  have hpl : ps.length ≤ N.length := by
    have := congrArg List.length S.pre
    rw [List.length_take] at this
    omega
  have hcc : base.get? cc = some ⟨cl, cld, .cell (some (.ref D)), csl⟩ := e0.mod.kin _ _ hcell
  have one : ∀ {y : Str} {c : Addr}, ([("__class__", cc)] : List (Str × Addr)).lookup y = some c → y = "__class__" ∧ c = cc := fun {y c} h => by
    rw [List.lookup_cons] at h
    split at h
    · rename_i e
      exact ⟨beq_iff_eq.mp e, (Option.some.inj h).symm⟩
    · cases h
  have noA : ∀ b : Addr, b ∉ (suCx P w K mg base N qual scope f cd cc A outer s H E).ex := fun b z => (nomatch (show b ∈ ([] : List Addr) from z))
  refine ⟨⟨e0.mod, S.kind, rfl, rfl, Nat.le_refl _, fun y z c h1 h2 => ?_, fun y hy => ?_, fun y c h => ?_, fun _ => hd, Around.frames_deeper e0.frames, .inr ⟨rfl, rfl⟩, fun b z => absurd z (noA b), e0.bs, e0.bsz, fun b _ _ => noA b, fun b z => absurd z (noA b), e0.funs, e0.frf⟩,
    rfl, e0.bare, Un.kept kp, ⟨_, hns, fun i y v h1 h2 h3 => ?_⟩, fun y c h => ?_, e0.hok.fresh (Nat.le_refl _), fun y c h => ?_, fun p hp => (nomatch (show p ∈ ([] : List (Addr × Obj)) from hp)), e0.hok.kept kp, ?_⟩
  · exact (one h1).1.trans (one h2).1.symm
  · have hy : scope.names.lookup y = some .cell ∨ scope.names.lookup y = some .free := hy
    rcases hy with hy | hy
    · exact absurd rfl (S.nocell _ (PySem.mem_of_lookup hy))
    · have e := S.free _ (PySem.mem_of_lookup hy) rfl
      have e : y = "__class__" := e
      subst e
      exact ⟨cc, rfl⟩
  · cases (show false = true from h)
  · have hi : i < vs.length := by
      apply Classical.byContradiction
      intro hi
      unfold L2.start at h2
      rw [List.getElem?_append_right (by simpa using hi), List.getElem?_replicate] at h2
      split at h2 <;> cases h2
    have ha : vs[i]? = some v := by
      unfold L2.start at h2
      rw [List.getElem?_append_left (by simpa using hi), List.getElem?_map] at h2
      cases e : vs[i]? with
      | none => rw [e] at h2; cases h2
      | some a => rw [e] at h2; cases h2; rfl
    obtain ⟨u, hu, rv⟩ := r.get ha
    have hp : ps[i]? = some y := by
      rw [← S.pre, List.getElem?_take_of_lt (by omega)]
      exact h1
    have ndP : ps.Nodup := by
      rw [← S.pre]
      exact S.nd.sublist (List.take_sublist _ _)
    exact ⟨u, rv, .inl ⟨S.par y (List.mem_of_getElem? hp), lookup_rev ndP hp hu⟩⟩
  · obtain ⟨_, e2⟩ := one h
    subst e2
    exact ⟨_, _, kp _ _ (e0.bs _ _ hcc).1, rfl⟩
  · obtain ⟨_, e2⟩ := one h
    subst e2
    exact (e0.bs _ _ hcc).2
  · unfold L2.start
    show _ = N.length
    rw [List.length_append, List.length_map, List.length_replicate]
    omega
/-- what is told of the class D's def: its own cell, its code's file, the class and the next def above it -/
structure SuFacts (P : Program) (K : PySem.W.Frag) (f f2 D C cc cda : Addr) (fd : FuncData) (self : Str) : Prop where
  look : ∃ (oc : Value) (od : Option Addr) (osl : Array (Option Value)), K.lookup f = some ⟨oc, od, .func fd, osl⟩
  head : ∃ ar, (fd.params.posonlyargs ++ fd.params.args).head? = some ar ∧ ar.arg = self
  code : ∃ (ccl : Value) (cdd : Option Addr) (vs : Array Value) (ccs : Array (Option Value)) (file : Str) (tf : Tok), K.lookup cda = some ⟨ccl, cdd, .fields vs, ccs⟩ ∧ vs[2]? = some (.str file tf) ∧ ((P.main.file : Str) == file) = true
  cell : ∃ (cl : Value) (cld : Option Addr) (csl : Array (Option Value)), K.lookup cc = some ⟨cl, cld, .cell (some (.ref D)), csl⟩
  clsD : ∃ cd, PySem.W.clsIn K D = some cd
  sub : PySem.W.mroIn K C (.ref D) = some true
  opq : PySem.W.nsIn K cStatics "thirdparty.any" = some none
  above : PySem.W.ks_superIn K C D "__init__" = some (some (.ref f2))
  ty : PySem.W.typeIn K (.ref f2) = some (.type "function")
  fi : PySem.W.fnIn K f2 = true
  top : (P.main.scope.names.lookup ("super" : Str)).isSome = false
  notC : PySem.W.clsIn K C ≠ none
section
variable {P : Program} {w : World} {K : PySem.W.Frag} {mg : Str → Option Value} {base : Heap}
/-- its promise: first what stands in the arguments, then the def above, then the rest of the body -/
theorem fn_super {f f2 D C cc cda : Addr} {name qual : Str} {params : Arguments} {scope : Scope} {dV kV doc pm ct : Value} {an : Option Addr} {N ps : List Str} {self : Str} {k : Nat} {sp sp2 : Sp} {e1 : Expr} {es : List Expr} {rest : List Stmt} {p0 p1 apos pos spos : Pos}
    (B : SuFacts P K f f2 D C cc cda (PySem.W.ksFn name qual params (.Expr (.Call (.Attribute (.Call (.Name "super" p0) [] [] p1) "__init__" apos) (e1 :: es) [] pos) spos :: rest) scope dV kV doc pm an (.ref cda) ct cc) self)
    (hcd : PySem.W.codeIn K (.ref cda) qual = true) (S : SuScope N ps scope) (h0 : ps[0]? = some self) (ms : mg "super" = none)
    (F2 : FnR P w K mg base CX0 k f2 sp2) (len : ∀ {vs H Q E}, sp vs H Q E → vs.length = ps.length)
    (hbody : ∀ (A : Around) (outer : List Env) (s : Shared) (H : Hp) (vs : List V) (Q : VK) (E : XK), Room k (A.deeper (PySem.W.ksEnv qual scope s.heap.objs.size f (.ref cda) cc)) → sp vs H Q E →
      ∃ ta t x dx fs, PA (suCx P w K mg base N qual scope f (.ref cda) cc A outer s H E) (e1 :: es) ta ∧ PSs (suCx P w K mg base N qual scope f (.ref cda) cc A outer s H E) rest t ∧ vs[0]? = some (.ref x) ∧ H x = some (.ins C dx fs) ∧
        ∀ q, H q = none → ta (L2.start N vs) (upd H q (.met f2 x)) fun us H1 => H1 q = some (.met f2 x) ∧ sp2 (.ref x :: us) H1 (fun _ H2 => t { nx := fun _ H' => Q .non H', rt := Q } (L2.start N vs) H2) E0)
    {pl : Sem Bool} (hev : ∀ env : Env, eval (.Call (.Attribute (.Call (.Name "super" p0) [] [] p1) "__init__" apos) (e1 :: es) [] pos) env = (do
      let ov ← attributeBase (.Call (.Name "super" p0) [] [] p1) "__init__" env (eval (.Call (.Name "super" p0) [] [] p1) env)
      standAt apos.atName
      let (f, first) ← holding [ov] (getMethod ov "__init__" pl)
      callWith pos f first (backTo pos (starEach (e1 :: es) env)) []))
    (hsw : ∀ env : Env, swapsWith (.Call (.Attribute (.Call (.Name "super" p0) [] [] p1) "__init__" apos) (e1 :: es) [] pos) none spos.line env = pure false)
    (hst : ∀ env : Env, starEach (e1 :: es) env = (false, eval e1 env) :: starEach es env) (hpl : ∀ env : Env, ((backTo pos (starEach (e1 :: es) env)).any (·.1) || (backToKw pos (keywordEach [] env)).any (·.1.isNone)) = false) :
    FnOk P w K mg base CX0 (k + 1) f (PySem.W.ksFn name qual params (.Expr (.Call (.Attribute (.Call (.Name "super" p0) [] [] p1) "__init__" apos) (e1 :: es) [] pos) spos :: rest) scope dV kV doc pm an (.ref cda) ct cc) ps sp := by
  obtain ⟨⟨oc, od, osl, lk⟩, ⟨ar, har, hself⟩, ⟨ccl, cdd, cvs, ccs, file, tf, lkc, hvs, hfile⟩, ⟨cl, cld, csl, lkcell⟩, ⟨cdD, hclsD⟩, hsub, hopq, habove, hty, hfi, htop, hnotC⟩ := B
  refine ⟨fun _ _ _ _ h => len h, fun A outer s H args us vs Q E hr e0 hb r hsp => ?_⟩
  have kin : K.In s.heap := e0.mod.kin.keeps fun b o e => (e0.bs b o e).1
  have nl : s.heap.NoLimit := e0.mod.nolimit.keeps fun b o e => (e0.bs b o e).1
  have hl := len hsp
  refine ks_codeAny_call_defAt (fd := PySem.W.ksFn name qual params _ scope dV kV doc pm an (.ref cda) ct cc) (binds := ps.zip us) hr.depth (kin _ _ lk) rfl nl (PySem.W.codeRec_of kin hcd) rfl hb (fun y hy => S.nocell y hy) (fun y hy => S.par y.1 (List.of_mem_zip (a := y.1) (b := y.2) hy).1) (fun h₁ hns kp => ?_) S.co S.gen S.kind
  obtain ⟨ta, t, x, dx, fs, ha, ht, hx0, hx, hq⟩ := hbody A outer s H vs Q E (hr.deeper _) hsp
  have I : Inv (suCx P w K mg base N qual scope f (.ref cda) cc A outer s H E) [] (L2.start N vs) H { s with heap := h₁, toks := s.toks + (ps.zip us).length } := su_start S lkcell hr.hd e0 hl r hns kp
  have kin1 : K.In h₁ := I.kIn
  obtain ⟨oD, hD1, hD2⟩ : ∃ oD, h₁.get? D = some oD ∧ oD.data = .cls cdD := by
    unfold PySem.W.clsIn at hclsD
    split at hclsD
    · rename_i ho
      cases hclsD
      exact ⟨_, kin1 _ _ ho, rfl⟩
    · cases hclsD
  obtain ⟨mA, O, _⟩ := ins_get I.hok hx
  obtain ⟨u0, hu0, ru0⟩ := r.get hx0
  cases (show u0 = Value.ref x from ru0)
  have hsv : (ps.zip us).reverse.lookup ar.arg = some (.ref x) := by
    rw [hself]
    refine lookup_rev ?_ h0 hu0
    rw [← S.pre]
    exact S.nd.sublist (List.take_sublist _ _)
  have hsl : scope.names.lookup ar.arg = some .local := by
    rw [hself]
    exact S.par _ (List.mem_of_getElem? h0)
  have hxC : x ≠ C := by
    intro e
    cases hcl : PySem.W.clsIn K C with
    | none => exact hnotC hcl
    | some cdC =>
      unfold PySem.W.clsIn at hcl
      split at hcl
      · rename_i ho
        have e2 := kin1 _ _ ho
        rw [← e, O.obj] at e2
        cases e2
      · cases hcl
  obtain ⟨mb, hnb, hbb⟩ := I.ok.mod.blt
  refine ks_wpAt_execs_cons (ks_wpAt_Expr_any (ks_wpAt_MethodCall (pl := pl) (ks_wpAt_super_base (env := PySem.W.ksEnv qual scope s.heap.objs.size f (.ref cda) cc) S.sup S.cls (by decide) rfl (kin1 _ _ lk) rfl har rfl (kin1 _ _ lkc) rfl hvs hfile htop ?_) (hev _)) I.quiet (hsw _))
  refine PySem.W.ks_loadName_global S.kind S.sup (PySem.Calls.loadGlobal_builtin (env := PySem.W.ksEnv qual scope s.heap.objs.size f (.ref cda) cc) (I.ok.mod.glob.keeps I.bk) ms (hnb.keeps I.bk) ((hbb _ (by decide +kernel)).trans (by decide +kernel)) ⟨rfl, ?_⟩)
  refine wpAny_loadName_free S.kind S.cls rfl ⟨_, kin1 _ _ lkcell, rfl⟩ ?_
  refine wpAny_loadName_local S.kind hsl hns hsv ?_
  refine ks_wpAny_isType_cls hD1 hD2 ⟨rfl, ?_⟩
  refine ks_wpAny_call_super hD1 hD2 O.obj rfl (fun c e => by cases e) (PySem.W.looks_mroIn kin1 hsub) (fun h2 e2 k2 => ?_)
  have I2 := I.kept (t' := s.toks + (ps.zip us).length) k2
  have kin2 : K.In h2 := I2.kIn
  obtain ⟨of, hof, hofc⟩ : ∃ of, h2.get? f2 = some of ∧ of.cls = .type "function" := by
    have ht' : (K.lookup f2).map (·.cls) = some (.type "function") := hty
    cases z : K.lookup f2 with
    | none => rw [z] at ht'; cases ht'
    | some of => rw [z] at ht'; exact ⟨of, kin2 _ _ z, Option.some.inj ht'⟩
  cases hcl : PySem.W.clsIn K C with
  | none => exact absurd hcl hnotC
  | some cdC =>
    unfold PySem.W.ks_superIn at habove
    rw [hcl] at habove
    refine ks_wpAny_getMethod_super e2 (PySem.W.looks_opaque kin2 hopq) (l₀ := cdC.mro) (fun A Q E s k q => wpAny_bind ((PySem.W.looks_clsIn kin2 hcl) A _ E s k (wpAny_pure q))) rfl kin2 habove hof hofc hxC (by decide) ?_
    have hfree : H h2.objs.size = none := I2.hok.fresh (Nat.le_refl _)
    have I3 := I2.laid (a := h2.objs.size) (o := .met f2 x) (h' := h2.push { cls := .type "method", data := .fields #[.ref f2, .ref x] }) (t' := s.toks + (ps.zip us).length + 1) (fun b u e => Heap.get?_push_of_some _ e) (Nat.le_refl _) (Heap.get?_push_size _ rfl)
    have hx3 := hq _ hfree
    refine callwith_met (X := suCx P w K mg base N qual scope f (.ref cda) cc A outer s H E) (a := x) (hpl _) hfi ?_
    rw [hst]
    refine Calls.evalArgs_plain ?_
    have hrun := ha.run pos [] _ (L2.start N vs) _ _ I3 hx3
    rw [hst] at hrun
    refine wpAny_mono hrun (fun us4 s4 h4 => ?_) fun _ _ z => z.elim
    obtain ⟨vs4, H4, I4, rv4, hm4, hsp4⟩ := h4
    have hr4 : Room k (suCx P w K mg base N qual scope f (.ref cda) cc A outer s H E).A := hr.deeper _
    refine ⟨met_P I4 hm4, wpAny_call (PySem.W.method_call (met_P I4 hm4).1 (codeAny_mono (run_fnR (X := suCx P w K mg base N qual scope f (.ref cda) cc A outer s H E) (vs := V.ref x :: vs4) (us := Value.ref x :: us4) F2 hr4 pass0 I4 (.cons rfl rv4) hsp4) fun r5 s5 h5 => ?_))⟩
    match r5, h5 with
    | .ok (.ret u), h5 =>
      obtain ⟨v5, H5, I5, _, q5⟩ := h5
      refine wpAt_of_wpAny (wpAny_mono (ht.run [] s5 _ H5 _ I5 q5) (fun fl s' hs => ?_) fun _ _ z => z.elim)
      cases fl with
      | ret u =>
        obtain ⟨v, σ', H', J, rv, q⟩ := hs
        exact ⟨v, H', J.os, J.bare, J.base, J.hok, rv, q⟩
      | next =>
        obtain ⟨σ', H', J, q⟩ := hs
        exact ⟨.non, H', J.os, J.bare, J.base, J.hok, rfl, q⟩
      | brk => exact hs.elim fun _ h => h.elim fun _ h => h.2.elim
      | cont => exact hs.elim fun _ h => h.elim fun _ h => h.2.elim
    | .error e, h5 => exact False.elim h5
    | .ok .next, h5 => exact False.elim h5
    | .ok .brk, h5 => exact False.elim h5
    | .ok .cont, h5 => exact False.elim h5
end
end Tl
end S_Su
section S_Bo
namespace Tl
open PySem PySem.Spec PyProof.Rows L2
theorem plain_bool_new : plainId "bool.__new__" = true := by decide +kernel
section
variable {P : Program} {w : World} {A : Around} {E : Value → Shared → Prop} {s : Shared}
theorem code_bool_new {v : Value} {Q₁ : Value → Shared → Prop} (h : wpAny (model P w) A.in1 (truthy v) (fun b s' => Q₁ (.bool b) s') E s) :
    codeAny (model P w) A (.call (.builtin "bool.__new__") ⟨[.type "bool", v], []⟩) (wants Q₁ E) s := by
  refine codeAny_of_tree ?_
  show wpAny _ A.in1 (do checkBuiltinCall "bool.__new__" ⟨[.type "bool", v], []⟩; again (.builtin "bool.__new__" ⟨[.type "bool", v], []⟩)) _ _ s
  refine wpAny_bind (wpAny_of_eq (F.newCall_bool_1 v) (wpAny_pure ⟨plainId_quiet plain_bool_new _, codeAny_builtin F.entry_bool_new ?_⟩))
  rw [Around.under_plainId plain_bool_new _]
  unfold Builtin.«bool.__new__»
  have f1 := F.conv_sub_bool
  obtain ⟨hp, g, d, tk, os⟩ := s
  wp_walk
  show wpAny (model P w) A.in1 (truthy v) _ _ _
  exact wpAny_mono h (fun b s' hb => wpAny_pure hb) fun _ _ e => e
/-- bool(v), by what truth gives -/
theorem call_bool_by {v : Value} {Q : Value → Shared → Prop} (h : wpAny (model P w) A.in1.in1 (truthy v) (fun b s' => Q (.bool b) s') E s) : wpAny (model P w) A (call (.type "bool") [v]) Q E s := by
  refine callType_codes (Q₁ := fun obj s₁ => (∃ b, obj = .bool b) ∧ Q obj s₁) F.called_bool (F.typeCall_bool_1 v) F.entry_object_init (code_bool_new (wpAny_mono h (fun b s' hb => ⟨⟨b, rfl⟩, hb⟩) fun _ _ e => e)) fun obj s₁ hq => ?_
  obtain ⟨⟨b, rfl⟩, hq⟩ := hq
  exact ⟨PySem.typeIs_bool _ _, F.args_object_init_2 _ v, object_init_meets F.called_bool.init.lookup F.called_bool.made F.newNe_bool P w A.in1 _ s₁ ⟨PySem.typeIs_bool _ _, rfl, hq⟩⟩
end
/-- bool(o) of an instance whose class has its own __bool__ at f -/
theorem call_boolO {X : Cx} {CX : CXT} {k : Nat} {C f : Addr} {fd : FuncData} {ps : List Str} {sp : Sp} {E : XK} (F : FnOk X.prog X.w X.K X.mg X.base CX k f fd ps sp) (hr : Room (k + 2) X.A) (hb : Binds X.K fd ps []) (hx : Passes CX X E)
    (hs : PySem.W.findIn X.K (.ref C) "__bool__" = some (some (.ref f))) (hf : PySem.W.isFn X.K (.ref f) = true) :
    CallR X (.type "bool") (fun xs H Q => ∃ a dx fs, xs = [.ref a] ∧ H a = some (.ins C dx fs) ∧ sp [.ref a] H (fun v H1 => ∃ b, v = .bl b ∧ Q (.bl b) H1) E) := by
  intro pins s σ H xs us Q I r h
  obtain ⟨a, dx, fs, rfl, ha, hsp⟩ := h
  obtain rfl := Vals.ref1 r
  obtain ⟨mA, O, _⟩ := ins_get I.hok ha
  obtain ⟨od, J, _⟩ := O.look
  obtain ⟨m, hF⟩ := I.fr
  refine call_bool_by (PySem.W.truthy_K hF I.ok.mod.kin J hs hf ?_)
  have hl := F.len _ _ _ _ hsp
  have r2 : Vals [V.ref a] [Value.ref a] := .cons rfl .nil
  refine wpAny_call (codeAny_mono (F.run X.A.in1.in1 X.stack s H ⟨[.ref a], []⟩ [.ref a] [.ref a] _ E hr.in1.in1 I.env0.in1.in1 (by
    have := hb s [.ref a] I.kIn (by simpa using hl)
    simpa using this) r2 hsp) fun r s' hq => ?_)
  match r, hq with
  | .error e, hq => exact hx pins σ H s e s' I hq
  | .ok (.ret u), hq =>
    obtain ⟨z, H', I', rz, b, ez, q⟩ := I.after hq
    subst ez
    cases rz
    exact ⟨.bl b, H', I', rfl, q⟩
  | .ok .next, hq => exact False.elim hq
  | .ok .brk, hq => exact False.elim hq
  | .ok .cont, hq => exact False.elim hq
end Tl
end S_Bo
section S_Zp
namespace Tl
open PySem PySem.Spec PyProof.Rows L2
/-! ### dict(zip(t, u)) of two tuples -/
/-- what one asks of an iterator at i: it gives v, from S to S'; it ends in S -/
abbrev Gives1 (P : Program) (w : World) (i : Addr) (v : Value) (S S' : Heap → Prop) : Prop := ∀ (A : Around) (E : Value → Shared → Prop) (s : Shared) (Q : Value → Shared → Prop), S s.heap →
  (∀ h', S' h' → Heap.SameBut i s.heap h' → Q v { s with heap := h' }) → wpAny (model P w) A (Builtin.SmallTypes.nextOf (.ref i)) Q E s
abbrev Ends1 (P : Program) (w : World) (i : Addr) (S : Heap → Prop) : Prop := ∀ (A : Around) (E : Value → Shared → Prop) (s : Shared) (Q : Value → Shared → Prop), A.handled = none → S s.heap →
  (∀ h' e, Heap.ExtBut i s.heap h' → (∃ o, h'.get? e = some o ∧ o.cls = .type "StopIteration") → E (.ref e) { s with heap := h' }) → wpAny (model P w) A (Builtin.SmallTypes.nextOf (.ref i)) Q E s
/-- it stays where one object alone changes -/
abbrev Off (b : Addr) (S : Heap → Prop) : Prop := ∀ h h', Heap.SameBut b h h' → S h → S h'
section
variable {P : Program} {w : World} {A : Around} {E : Value → Shared → Prop} {s : Shared}
theorem held_item {z TI TO T i1 i2 : Addr} {f : Bool} {oT : Obj} {x y : Value} {S1 S1' S2 S2' : Heap → Prop} {Q : Value → Shared → Prop} (hz : IsZipHeld s.heap z TI TO T f) (hT : s.heap.get? T = some oT) (hTI : IsPair s.heap TI (.ref i1) (.ref i2)) (z1 : i1 ≠ z) (z2 : i2 ≠ z)
    (n1 : Gives1 P w i1 x S1 S1') (n2 : Gives1 P w i2 y S2 S2') (s1 : S1 s.heap) (s2 : S2 s.heap) (o1 : Off z S1) (o2 : Off z S2) (o21 : Off i1 S2) (o12 : Off i2 S1')
    (hQ : ∀ h', IsZipHeld h' z TI TO T true → S1' h' → S2' h' → h'.objs.size = s.heap.objs.size → (∀ c o, c ≠ z → c ≠ i1 → c ≠ i2 → s.heap.get? c = some o → h'.get? c = some o) →
      Q (.ref h'.objs.size) { s with heap := h'.push { cls := .type "tuple", data := .seq #[x, y] } }) :
    wpAny (model P w) A (Builtin.«zip.__next__» ⟨[.ref z], []⟩) (fun fin s' => ∃ v, fin = .done (.ret v) ∧ Q v s') E s := by
  show wpAny _ _ (field (.ref z) 2 >>= _) _ _ _
  refine wpAny_bind (wpAny_field hz rfl (x := .bool false) rfl (show wpAny _ _ (field (.ref z) 3 >>= _) _ _ _ from wpAny_bind (wpAny_field hz rfl (x := .ref TI) rfl (wpAny_bind (wpAny_seqItems hTI rfl ?_)))))
  show wpAny _ _ (Builtin.SmallTypes.ownedTupleIsFree (.ref z) >>= _) _ _ _
  refine wpAny_bind (wpAny_tupleHeld_zip hz hT fun ha hza sa => ?_)
  simp only [Bool.false_eq_true, if_false]
  refine wpAny_bind ?_
  rw [← Array.forIn_toList]
  simp only [List.forIn_cons, List.forIn_nil]
  refine wpAny_bind (wpAny_bind (wpAny_holding (show wpAny _ _ (Builtin.SmallTypes.nextOf (.ref i1) >>= _) _ _ _ from wpAny_bind (n1 _ _ { s with heap := ha } _ (o1 _ _ sa s1) fun hb sb1 sb => wpAny_pure (wpAny_pure ?_)))))
  refine wpAny_bind (wpAny_bind (wpAny_holding (show wpAny _ _ (Builtin.SmallTypes.nextOf (.ref i2) >>= _) _ _ _ from wpAny_bind (n2 _ _ { s with heap := hb } _ (o21 _ _ sb (o2 _ _ sa s2)) fun hc sc2 sc => wpAny_pure (wpAny_pure (wpAny_pure ?_))))))
  refine (show wpAny _ _ (newTuple [x, y] >>= _) _ _ _ from wpAny_bind (wpAny_newTuple (wpAny_pure ⟨_, rfl, ?_⟩)))
  exact hQ hc (sc.extBut _ _ z2.symm (sb.extBut _ _ z1.symm hza)) (o12 _ _ sc sb1) sc2 (by rw [sc.1, sb.1, sa.1]) fun c o c1 c2 c3 e => sc.extBut _ _ c3 (sb.extBut _ _ c2 (sa.extBut _ _ c1 e))
/-- the first one ends -/
theorem held_end {z TI TO T i1 i2 : Addr} {f : Bool} {oT : Obj} {S1 : Heap → Prop} {Q : Fin → Shared → Prop} (hh : A.handled = none) (hz : IsZipHeld s.heap z TI TO T f) (hT : s.heap.get? T = some oT) (hTI : IsPair s.heap TI (.ref i1) (.ref i2))
    (n1 : Ends1 P w i1 S1) (s1 : S1 s.heap) (o1 : Off z S1) (hE : ∀ h' e, (∀ c o, c ≠ z → c ≠ i1 → s.heap.get? c = some o → h'.get? c = some o) → (∃ o, h'.get? e = some o ∧ o.cls = .type "StopIteration") → E (.ref e) { s with heap := h' }) :
    wpAny (model P w) A (Builtin.«zip.__next__» ⟨[.ref z], []⟩) Q E s := by
  show wpAny _ _ (field (.ref z) 2 >>= _) _ _ _
  refine wpAny_bind (wpAny_field hz rfl (x := .bool false) rfl (show wpAny _ _ (field (.ref z) 3 >>= _) _ _ _ from wpAny_bind (wpAny_field hz rfl (x := .ref TI) rfl (wpAny_bind (wpAny_seqItems hTI rfl ?_)))))
  show wpAny _ _ (Builtin.SmallTypes.ownedTupleIsFree (.ref z) >>= _) _ _ _
  refine wpAny_bind (wpAny_tupleHeld_zip hz hT fun ha hza sa => ?_)
  simp only [Bool.false_eq_true, if_false]
  refine wpAny_bind ?_
  rw [← Array.forIn_toList]
  simp only [List.forIn_cons, List.forIn_nil]
  refine wpAny_bind (wpAny_bind (wpAny_holding (show wpAny _ _ (Builtin.SmallTypes.nextOf (.ref i1) >>= _) _ _ _ from wpAny_bind (n1 _ _ { s with heap := ha } _ hh (o1 _ _ sa s1) fun hb e sb he => ?_))))
  exact hE hb e (fun c o c1 c2 q => sb _ _ c2 (sa.extBut _ _ c1 q)) he
theorem next_by {z : Addr} {Q : Option Value → Shared → Prop} (hTy : s.TypeIs (.ref z) "zip") (h : wpAny (model P w) A.in1 (Builtin.«zip.__next__» ⟨[.ref z], []⟩) (fun fin s' => ∃ v, fin = .done (.ret v) ∧ Q (some v) s') (fun e s' => (∃ a o, e = .ref a ∧ s'.heap.get? a = some o ∧ o.cls = .type "StopIteration") ∧ Q none s') s) :
    wpAny (model P w) A (pyNext (.ref z)) Q E s := by
  unfold pyNext
  refine wpAny_bind (wpAny_attempt (wpAny_callSpecial?_slot (name := Str.ofString "__next__") hTy F.slot_zip_next (wpAny_call_entry F.slot_zip_next hTy F.entry_zip_next (wpAny_mono h (fun fin s' hf => ?_) fun e s' he => ?_) (F.args_zip_next_1 _))))
  · obtain ⟨v, rfl, hq⟩ := hf
    exact ⟨v, rfl, wpAny_pure hq⟩
  · obtain ⟨⟨a, o, rfl, ho, hc⟩, hq⟩ := he
    exact wpAny_bind (wpAny_isInstance (T := "StopIteration") (b := true) ⟨o, ho, hc⟩ isSubtype_stop (wpAny_pure hq))
end
/-- such an iterator of a tuple -/
abbrev TI1 (i l : Addr) (xs : Array Value) (k : Nat) (h : Heap) : Prop := h.IsTupleIter i l k ∧ h.IsTuple l xs
theorem ti_gives {P : Program} {w : World} {i l : Addr} {xs : Array Value} {k : Nat} {v : Value} (hne : l ≠ i) (hv : xs[k]? = some v) : Gives1 P w i v (TI1 i l xs k) (TI1 i l xs (k + 1)) := fun A E s Q hs hq =>
  RZ.nextOf_tuple_item hs.1 hs.2 hv fun h' a b => hq h' ⟨a, hs.2.extBut b.extBut hne⟩ b
theorem ti_ends {P : Program} {w : World} {i l : Addr} {xs : Array Value} {k : Nat} (hv : xs[k]? = none) : Ends1 P w i (TI1 i l xs k) := fun A E s Q hh hs hq => RZ.nextOf_tuple_end hh hs.1 hs.2 hv hq
theorem ti_off {b i l : Addr} {xs : Array Value} {k : Nat} (h1 : i ≠ b) (h2 : l ≠ b) : Off b (TI1 i l xs k) := fun h h' sb hs => ⟨hs.1.extBut sb.extBut h1, hs.2.extBut sb.extBut h2⟩
theorem ti_at {i l : Addr} {xs : Array Value} {k : Nat} {h h' : Heap} (hs : TI1 i l xs k h) (h1 : ∀ o, h.get? i = some o → h'.get? i = some o) (h2 : ∀ o, h.get? l = some o → h'.get? l = some o) : TI1 i l xs k h' := ⟨hs.1.at h1, hs.2.at h2⟩
/-- what stands where the zip of two tuples was made -/
def ZOk (z TI TO i1 i2 l1 l2 : Addr) (xs ys : Array Value) (h : Heap) : Prop := IsZip h z TI TO .none ∧ IsPair h TI (.ref i1) (.ref i2) ∧ (∃ a b, IsPair h TO a b) ∧ TI1 i1 l1 xs 0 h ∧ TI1 i2 l2 ys 0 h
/-- what stands at turn k, while a dict is filled at d -/
def ZSt (z TI TO i1 i2 l1 l2 : Addr) (xs ys : Array Value) (d : Addr) (k : Nat) (h : Heap) : Prop := IsPair h TI (.ref i1) (.ref i2) ∧ TI1 i1 l1 xs k h ∧ TI1 i2 l2 ys k h ∧
  ((IsZip h z TI TO .none ∧ ∃ a b, IsPair h TO a b) ∨ ∃ T f oT, IsZipHeld h z TI TO T f ∧ h.get? T = some oT ∧ T ≠ z ∧ T ≠ i1 ∧ T ≠ i2 ∧ T ≠ d)
theorem pair_arg_zip {P : Program} {w : World} {z TI TO i1 i2 l1 l2 : Addr} (D : ZipApart z TI TO i1 i2 l1 l2) {xs ys : Array Value} (hsz : ys.size = xs.size) :
    PairArg P w "zip" z [z, TI, TO, i1, i2, l1, l2] [z, TO, i1, i2] xs.size (fun i k v => xs[i]? = some k ∧ ys[i]? = some v) (ZOk z TI TO i1 i2 l1 l2 xs ys) := by
  refine { type := fun s ok => ⟨_, ok.1, rfl⟩, notDict := by decide, keep := fun h h' ok hk => ?_, there := fun h ok b hb => ?_, sub := fun b hb => ?_, noKeys := fun A s Q E hA ok h => getAttrOr_miss_zip ok.1 rfl rfl rfl zip_no_keys (by decide +kernel) hA h, iter := fun A s d Q E hA ok hd hdf h => ?_ }
  · obtain ⟨a1, a2, ⟨x, y, a3⟩, a4, a5⟩ := ok
    exact ⟨hk _ _ a1, hk _ _ a2, ⟨x, y, hk _ _ a3⟩, ti_at a4 (fun o => hk _ o) (fun o => hk _ o), ti_at a5 (fun o => hk _ o) fun o => hk _ o⟩
  · obtain ⟨a1, a2, ⟨x, y, a3⟩, ⟨⟨o1, b1, _⟩, ⟨o2, b2, _⟩⟩, ⟨⟨o3, b3, _⟩, ⟨o4, b4, _⟩⟩⟩ := ok
    simp only [List.mem_cons, List.not_mem_nil, or_false] at hb
    rcases hb with e | e | e | e | e | e | e <;> subst e <;> first | exact ⟨_, a1⟩ | exact ⟨_, a2⟩ | exact ⟨_, a3⟩ | exact ⟨_, b1⟩ | exact ⟨_, b2⟩ | exact ⟨_, b3⟩ | exact ⟨_, b4⟩
  · simp only [List.mem_cons, List.not_mem_nil, or_false] at hb ⊢
    rcases hb with e | e | e | e <;> simp [e]
  · obtain ⟨a1, a2, a3, a4, a5⟩ := ok
    simp only [List.mem_cons, List.not_mem_nil, or_false, not_or] at hdf
    obtain ⟨dz, dTI, dTO, di1, di2, dl1, dl2⟩ := hdf
    refine wpAny_pyIter_zip a1 (h z [z, TO, i1, i2] (ZSt z TI TO i1 i2 l1 l2 xs ys d) s.heap s.toks ?_ ⟨a2, a4, a5, .inl ⟨a1, a3⟩⟩ (fun _ _ e => e) fun b hb => .inl hb)
    refine { off := fun hm => ?_, frame := fun i g g' st hk => ?_, item := fun i s1 Q1 E1 hi st hds hQ => ?_, done := fun s1 Q1 E1 st hQ => ?_ }
    · simp only [List.mem_cons, List.not_mem_nil, or_false] at hm
      rcases hm with e | e | e | e
      · exact dz e
      · exact dTO e
      · exact di1 e
      · exact di2 e
    · obtain ⟨b1, b2, b3, b4⟩ := st
      refine ⟨hk _ _ (Ne.symm dTI) b1, ti_at b2 (fun o => hk _ o (Ne.symm di1)) (fun o => hk _ o (Ne.symm dl1)), ti_at b3 (fun o => hk _ o (Ne.symm di2)) (fun o => hk _ o (Ne.symm dl2)), ?_⟩
      rcases b4 with ⟨c1, x, y, c2⟩ | ⟨T, f, oT, c1, c2, c3, c4, c5, c6⟩
      · exact .inl ⟨hk _ _ (Ne.symm dz) c1, x, y, hk _ _ (Ne.symm dTO) c2⟩
      · exact .inr ⟨T, f, oT, hk _ _ (Ne.symm dz) c1, hk _ _ c6 c2, c3, c4, c5, c6⟩
    · obtain ⟨b1, b2, b3, b4⟩ := st
      have ex := Array.getElem?_eq_getElem (xs := xs) hi
      have ey := Array.getElem?_eq_getElem (xs := ys) (i := i) (by omega)
      have lt : ∀ {c : Addr} {o : Obj}, s1.heap.get? c = some o → s1.heap.objs.size ≠ c := fun e => Nat.ne_of_gt (Heap.lt_size e)
      have m1 : s1.heap.objs.size ≠ i1 := b2.1.elim fun _ e => lt e.1
      have m2 : s1.heap.objs.size ≠ i2 := b3.1.elim fun _ e => lt e.1
      rcases b4 with ⟨c1, x, y, c2⟩ | ⟨T, f, oT, c1, c2, c3, c4, c5, c6⟩
      · refine RZ.pyNext_zipT_item D c1 b1 c2 b2.1 b3.1 b2.2 b3.2 ex ey fun g' e1 e2 e3 e4 e5 _ hk => ?_
        refine hQ s1.heap.objs.size _ _ g' s1.toks ⟨ex, ey⟩ (.inl ⟨_, e5, rfl, _, rfl⟩) ⟨hk _ _ D.TIz D.TITO D.TIi1 D.TIi2 b1, ⟨e3, b2.2.at fun o => hk _ o D.l1z D.l1TO D.l1i1 D.l1i2⟩, ⟨e4, b3.2.at fun o => hk _ o D.l2z D.l2TO D.l2i1 D.l2i2⟩, .inr ⟨s1.heap.objs.size, false, _, e1, e5, lt c1, m1, m2, Nat.ne_of_gt hds⟩⟩ fun c o hc e => ?_
        simp only [List.mem_cons, List.not_mem_nil, or_false, not_or] at hc
        exact hk c o hc.1 hc.2.1 hc.2.2.1 hc.2.2.2 e
      · refine next_by ⟨_, c1, rfl⟩ (wpAny_mono (held_item c1 c2 b1 D.i1z D.i2z (ti_gives D.l1i1 ex) (ti_gives D.l2i2 ey) b2 b3 (ti_off D.i1z D.l1z) (ti_off D.i2z D.l2z) (ti_off D.i12.symm D.l2i1) (ti_off D.i12 D.l1i2) fun g' e1 e2 e3 e4 hk => ?_) (fun _ _ q => q) fun _ _ q => q)
        have up : ∀ (c : Addr) (o : Obj), g'.get? c = some o → (g'.push { cls := .type "tuple", data := .seq #[xs[i], ys[i]] }).get? c = some o := fun c o e => Heap.get?_push_of_some _ e
        refine hQ g'.objs.size _ _ _ s1.toks ⟨ex, ey⟩ (.inl ⟨_, Heap.get?_push_size _ rfl, rfl, _, rfl⟩) ⟨up _ _ (hk _ _ D.TIz D.TIi1 D.TIi2 b1), ti_at e2 (up _) (up _), ti_at e3 (up _) (up _), .inr ⟨T, true, oT, up _ _ e1, up _ _ (hk _ _ c3 c4 c5 c2), c3, c4, c5, c6⟩⟩ fun c o hc e => ?_
        simp only [List.mem_cons, List.not_mem_nil, or_false, not_or] at hc
        exact up _ _ (hk c o hc.1 hc.2.2.1 hc.2.2.2 e)
    · obtain ⟨b1, b2, b3, b4⟩ := st
      have ex : xs[xs.size]? = none := Array.getElem?_eq_none (Nat.le_refl _)
      rcases b4 with ⟨c1, x, y, c2⟩ | ⟨T, f, oT, c1, c2, c3, c4, c5, c6⟩
      · refine RZ.pyNext_zipT_end hA D c1 b1 c2 b2.1 b3.1 b2.2 b3.2 (.inl ex) fun g' hk => hQ g' s1.toks fun c o hc e => ?_
        simp only [List.mem_cons, List.not_mem_nil, or_false, not_or] at hc
        exact hk c o hc.1 hc.2.1 hc.2.2.1 hc.2.2.2 e
      · refine next_by ⟨_, c1, rfl⟩ (wpAny_mono (held_end (S1 := TI1 i1 l1 xs xs.size) (Q := fun _ _ => False) hA c1 c2 b1 (ti_ends ex) b2 (ti_off D.i1z D.l1z) fun g' e hk he => ?_) (fun _ _ q => q.elim) fun _ _ q => q)
        obtain ⟨o, ho, hc⟩ := he
        refine ⟨⟨e, o, rfl, ho, hc⟩, hQ g' s1.toks fun c o hc e => ?_⟩
        simp only [List.mem_cons, List.not_mem_nil, or_false, not_or] at hc
        exact hk c o hc.1 hc.2.2.1 e
end Tl
end S_Zp
section S_Ya
namespace Tl
open PySem PySem.Spec PyProof.Rows L2
/-! ### sorted(t) of a tuple of ints -/
section
variable {prog : Program} {w : World} {A : Around} {E : Value → Shared → Prop} {s : Shared}
abbrev heapL (h : Heap) (zs : List Value) : Heap := (h.push (seqObj "list" #[] 0)).update h.objs.size (Obj.mapSeq (· ++ zs.toArray))
theorem collect_tup {l : Addr} {zs : List Value} {Q : List Value → Shared → Prop} (hl : s.heap.IsTuple l zs.toArray) (hz : zs.length ≤ sizeLine)
    (h : Q zs { s with heap := heapL s.heap zs }) : wpAny (model prog w) A (collect (.ref l)) Q E s := by
  obtain ⟨ob, hob, hcl, m, hdt⟩ := id hl
  unfold collect
  refine wpAny_bind (wpAny_runValue (codeAny_builtin entry_proto_collect' ?_))
  show wpAny _ _ (do again (.builtin "list.__iadd__" ⟨[← newList [], .ref l], []⟩)) _ _ s
  refine wpAny_bind (wpAny_newList (wpAny_pure ⟨Code.quiet_builtin _ (by decide +kernel), codeAny_builtin entry_list_iadd' ?_⟩))
  show wpAny _ _ (Builtin.List.listExtendWith (.ref s.heap.objs.size) (.ref l) (.ref s.heap.objs.size)) _ _ { s with heap := s.heap.push (seqObj "list" #[] 0) }
  unfold Builtin.List.listExtendWith
  have hob' : (s.heap.push (seqObj "list" #[] 0)).get? l = some ob := Heap.get?_push_of_some _ hob
  refine wpAny_bind (wpAny_typeOf (T := "tuple") ⟨ob, hob', hcl⟩ ?_)
  have h1 : (Value.type "tuple" == Value.type "list") = false := by rfl
  have h2 : (Value.type "tuple" == Value.type "tuple") = true := by rfl
  rw [if_pos (by rw [h1, h2]; simp)]
  refine wpAny_bind (listItems_at hob' hdt ?_)
  refine wpAny_bind (listItems_at (xs := #[]) (n := 0) (Heap.get?_push_size _ rfl) rfl ?_)
  rw [if_neg (by simp)]
  refine wpAny_bind (listUpdate_at (xs := #[]) (n := 0) (Heap.get?_push_size _ rfl) rfl ?_ (Nat.zero_le _) (by
    show (#[] ++ zs.toArray).size ≤ sizeLine + 1
    simp only [Array.size_append, List.size_toArray, List.length_nil]
    omega))
  refine wpAny_pure ?_
  refine (show wpAny (model prog w) A (load s.heap.objs.size >>= _) Q E { s with heap := heapL s.heap zs } from wpAny_bind (wpAny_load (get?_update_seq (Heap.get?_push_size _ rfl) _) ?_))
  show wpAny _ _ (pure ((#[] : Array Value) ++ zs.toArray).toList) Q E _
  have e : ((#[] : Array Value) ++ zs.toArray).toList = zs := by simp
  rw [e]
  exact wpAny_pure h
theorem sorted_tup {l : Addr} {zs : List Value} {lt : Value → Value → Bool} {Q : Value → Shared → Prop} (O : SrtO.Swo lt) (hl : s.heap.IsTuple l zs.toArray) (hz : zs.length ≤ sizeLine)
    (hS : 2 ≤ zs.length → ∀ (g : Heap) (a : Addr), g.get? a = some (seqObj "list" zs.toArray 0) → (∀ b o, s.heap.get? b = some o → b ≠ a ∧ g.get? b = some o) → SrtO.SortableO prog w A.in1.in1 { s with heap := g } a zs lt)
    (h : ∀ out : List Value, SrtO.Srtd lt out → SrtO.Stb lt out zs → Q (.ref (s.heap.objs.size + 1)) { s with heap := sortedAll s.heap zs out.toArray }) :
    wpAny (model prog w) A (call (.builtin "sorted") [.ref l]) Q E s := by
  refine Calls.call_function_entry kind_sorted plain_sorted entry_sorted (args_sorted1 _) ?_
  unfold Builtin.«sorted»
  refine wpAny_bind (m := checkCount "sorted" 1 1 _) (wpAny_pure (wpAny_bind (collect_tup hl hz (wpAny_bind (wpAny_newList ?_ hz)))))
  have sz : (heapL s.heap zs).objs.size = s.heap.objs.size + 1 := by
    show ((s.heap.push (seqObj "list" #[] 0)).update s.heap.objs.size (Obj.mapSeq (· ++ zs.toArray))).objs.size = _
    rw [Heap.size_update, size_push']
  have at1 : ((heapL s.heap zs).push (seqObj "list" zs.toArray 0)).get? (s.heap.objs.size + 1) = some (seqObj "list" zs.toArray 0) := by
    rw [← sz]
    exact Heap.get?_push_size _ rfl
  have up : ∀ b o, s.heap.get? b = some o → b ≠ s.heap.objs.size + 1 ∧ ((heapL s.heap zs).push (seqObj "list" zs.toArray 0)).get? b = some o := fun b o q => by
    have lt : b < s.heap.objs.size := Heap.lt_size q
    refine ⟨Nat.ne_of_lt (Nat.lt_succ_of_lt lt), Heap.get?_push_of_some _ ?_⟩
    show ((s.heap.push (seqObj "list" #[] 0)).update s.heap.objs.size (Obj.mapSeq (· ++ zs.toArray))).get? b = some o
    rw [Heap.get?_update_ne _ _ _ _ (Nat.ne_of_lt lt)]
    exact Heap.get?_push_of_some _ q
  show wpAny _ _ _ _ _ { s with heap := (heapL s.heap zs).push (seqObj "list" zs.toArray 0) }
  rw [sz]
  refine wpAny_bind (wpAny_holding (wpAny_call_entry slot_list_sort ⟨_, at1, rfl⟩ entry_list_sort (SrtO.list_sort_ord O at1 hz (fun h2 => hS h2 _ _ at1 up) fun out a b => ⟨_, rfl, ?_⟩) (args_list_sort _)))
  exact wpAny_pure ⟨_, rfl, h out a b⟩
end
def rSortedU (K : PySem.W.Frag) : List V → Hp → VK → Prop := fun vs H Q => ∃ (a : Addr) (ns : List Int), vs = [V.ref a] ∧ (SqL K H a (ns.map V.int) ∨ SqT K H a (ns.map V.int)) ∧
  ∀ (ms : List Int) (p : Addr), ms.Perm ns → ms.Pairwise (· ≤ ·) → H p = none → Q (.ref p) (upd H p (.lst (ms.map V.int)))
/-- sorted(xs) of a list or a tuple of ints -/
theorem cr_sortedU {X : Cx} : CallR X (.builtin "sorted") (rSortedU X.K) := by
  intro pins s σ H vs us Q I r h
  obtain ⟨a, ns, rfl, hs | hs, q⟩ := h
  · exact cr_sortedI pins s σ H _ us Q I r ⟨a, ns, rfl, hs, q⟩
  · obtain ⟨its, rv, hl, hz⟩ := I.tuple hs
    rw [Vals.ref1 r]
    have hi := rv.ints
    refine sorted_tup SrtO.swo_int hl (by rw [← rv.length]; exact hz) (fun h2 g b _ _ => SrtO.ints_sortable hi h2) fun out h1 h2 => ?_
    obtain ⟨k1, k2, k3⟩ := SrtO.ints_out hi h1 h2
    obtain ⟨ep, hep⟩ := PyProof.Rows.sortedAll_at s.heap its out.toArray
    have hn : ((out.map SrtO.iv).map V.int).length ≤ sizeLine := by
      rw [List.length_map] at hz ⊢
      rw [k2.length_eq]
      exact hz
    exact ⟨.ref _, upd H (s.heap.objs.size + 1) (.lst ((out.map SrtO.iv).map V.int)), I.laid (t' := s.toks) (fun _ _ => PyProof.Rows.sortedAll_old) (Nat.le_succ _) ⟨hn, out, ep, vals_of_ints k1, hep⟩, rfl, q _ _ k2 k3 (I.hok.fresh (Nat.le_succ _))⟩
/-! ### enumerate(t) of a tuple -/
set_option maxHeartbeats 1000000 in
theorem enum_new1 {v : Value} {o : Obj} {G : Heap → Prop} (B : Begins v o G) :
    Meets (Builtin.«enumerate.__new__» ⟨[.type "enumerate", v], []⟩) (fun _ R z => G z.heap ∧
      R (.ok (.ret (.ref (z.heap.push o).objs.size))) { z with heap := (z.heap.push o).push { cls := .type "enumerate", data := .fields #[.none, .bool false, .ref z.heap.objs.size, rawInt 0, .none, .none] } }) :=
  .of_wp fun pr wo Ar R z h => by
    obtain ⟨hh, ge, dd, tt, oo⟩ := z
    obtain ⟨g1, h⟩ := h
    have sb := sub_enumerate
    have it1 : ∀ {A' : Around} {E : Value → Shared → Prop} {Q : Value → Shared → Prop}, Q (.ref hh.objs.size) ⟨hh.push o, ge, dd, tt, oo⟩ → wpAny (model pr wo) A' (pyIter v) Q E ⟨hh, ge, dd, tt, oo⟩ :=
      fun q => B.iter pr wo _ _ ⟨hh, ge, dd, tt, oo⟩ _ g1 q
    wp_walk using it1
    refine wpAny_stack_any fun st => wpAny_pure ?_
    split
    · rename_i c _ _ _ _ _
      cases (c == Value.type "enumerate") <;> (wp_walk using it1; exact ⟨_, rfl, h⟩)
    · wp_walk using it1
      exact ⟨_, rfl, h⟩
section
variable {prog : Program} {w : World} {A : Around} {E : Value → Shared → Prop} {s : Shared}
theorem enum_of {v : Value} {o : Obj} {G : Heap → Prop} {Q : Value → Shared → Prop} (B : Begins v o G) (g1 : G s.heap)
    (h : ∀ g, IsEnum g (s.heap.objs.size + 1) s.heap.objs.size 0 .none → g.get? s.heap.objs.size = some o → g.objs.size = s.heap.objs.size + 2 →
      (∀ b u, s.heap.get? b = some u → g.get? b = some u) → Q (.ref (s.heap.objs.size + 1)) { s with heap := g }) :
    wpAny (model prog w) A (call (.type "enumerate") [v]) Q E s := by
  refine callType_new F.called_enumerate (by decide) (F.typeCall_enumerate_1 _) (F.newCall_enumerate_1 _) (fun obj => F.args_object_init_2 obj _) F.entry_enumerate_new (enum_new1 B) ⟨g1, ?_⟩
  have z1 : (s.heap.push o).objs.size = s.heap.objs.size + 1 := Heap.size_push ..
  show _ ∧ _
  rw [z1]
  have he : IsEnum ((s.heap.push o).push { cls := .type "enumerate", data := .fields #[.none, .bool false, .ref s.heap.objs.size, rawInt 0, .none, .none] }) (s.heap.objs.size + 1) s.heap.objs.size 0 .none := z1 ▸ Heap.get?_push_size _ rfl
  exact ⟨⟨_, he, rfl⟩, h _ he (Heap.get?_push_of_some _ (Heap.get?_push_size _ B.free)) (by rw [Heap.size_push, z1]) fun b u x => Heap.get?_push_of_some _ (Heap.get?_push_of_some _ x)⟩
end
/-- the tuple at a as it stands at each turn, each item in a new pair -/
def IteT (K : PySem.W.Frag) (a : Addr) : It :=
  ⟨fun i H => ∃ (xs : List V) (x : V), SqT K H a xs ∧ xs[i]? = some x, fun i H v H' => ∃ T x, v = .ref T ∧ H T = none ∧ H' = upd H T (.tup [.int (i : Nat), x]) ∧ ∀ xs, SqT K H a xs → xs[i]? = some x, fun i H => ∃ xs : List V, SqT K H a xs ∧ xs.length ≤ i⟩
theorem tup_ne {h : Heap} {a b l : Addr} {k : Nat} {xs : Array Value} (p : h.IsTuple a xs) (q : h.IsTupleIter b l k) : a ≠ b := fun z => by
  obtain ⟨o, ho, hc, _⟩ := p
  obtain ⟨u, hu, hd, _⟩ := q
  rw [z, hu] at ho
  cases ho
  rw [hd] at hc
  exact absurd (Value.type.inj hc) (by decide)
theorem tup_ne2 {h : Heap} {a e it : Addr} {i : Int} {old : Value} {xs : Array Value} (p : h.IsTuple a xs) (q : IsEnum h e it i old) : a ≠ e := fun z => by
  obtain ⟨o, ho, hc, _⟩ := p
  rw [z, q] at ho
  cases ho
  exact absurd (Value.type.inj hc) (by decide)
abbrev EnT (a e it : Addr) (i : Nat) (h : Heap) : Prop := (∃ old, IsEnum h e it ((i : Nat) : Int) old) ∧ h.IsTupleIter it a i ∧ e ≠ it
theorem turn_enumT {P : Program} {w : World} {K : PySem.W.Frag} {elts : List Expr} {kk : Nat} {tpos : Pos} (a e it : Addr) : Turn P w K (.Tuple elts kk tpos) (IteT K a) [e, it] e (EnT a e it) where
  mem := List.mem_cons_self
  obj := fun i h st b hb => by
    obtain ⟨⟨old, he⟩, ⟨o, ho, hc, hd⟩, _⟩ := st
    rcases List.mem_cons.mp hb with z | z
    · rw [z]; exact ⟨_, he, fun v q => nomatch q⟩
    · rw [List.mem_singleton.mp z]; exact ⟨o, ho, fun v q => by rw [hd] at q; cases q⟩
  keep := fun i h h' st k => ⟨st.1.imp fun old he => k e (by simp) _ he, st.2.1.at fun o q => k it (by simp) o q, st.2.2⟩
  item := by
    intro X hP hw hK hc i pins s σ H E I hf st hg
    subst hP hw hK
    obtain ⟨⟨old, he⟩, hit, hne⟩ := st
    obtain ⟨xs, x, hq, hx⟩ := hg
    obtain ⟨its, rv, p, hz⟩ := I.tuple hq
    obtain ⟨u, hu, ru⟩ := rv.get hx
    have hai : a ≠ it := tup_ne p hit
    have hae : a ≠ e := tup_ne2 p he
    have le : e < s.heap.objs.size := Heap.lt_size he
    have li : it < s.heap.objs.size := by obtain ⟨_, q, _⟩ := hit; exact Heap.lt_size q
    have isz : i < its.toArray.size := by simpa using (List.getElem?_eq_some_iff.mp hu).1
    refine wpAny_pyNext_enum_itemC (Draws.tuple (show X.A.in1.handled = none from I.ok.hd hc) it a hai its.toArray) he ⟨hit, p⟩ isz hne (by simp [hne, Ne.symm hae]) fun y g tk hy ho hst hT hsz hk => ?_
    have ey : y = u := by
      rw [show its.toArray[i]? = its[i]? by simp, hu] at hy
      exact (Option.some.inj hy).symm
    subst ey
    refine ⟨_, rfl, wpAny_letOwnedTupleGo_enum (s := { s with heap := g, toks := tk + 1 }) ho fun g2 he' sb => ?_⟩
    have at2 : g2.get? s.heap.objs.size = some { cls := .type "tuple", data := .seq #[.int i tk, y] } := (sb.2 _ (Nat.ne_of_gt le)).trans hT
    have new : ObjOk X.prog X.w (upd H s.heap.objs.size (.tup [.int (i : Nat), x])) g2 s.heap.objs.size (.tup [.int (i : Nat), x]) :=
      ⟨by show 2 ≤ sizeLine; decide, [.int i tk, y], .cons ⟨_, rfl⟩ (.cons ru .nil), ⟨_, at2, rfl, _, rfl⟩⟩
    have old2 : ∀ b ob, b ∉ [e, it] → s.heap.get? b = some ob → g2.get? b = some ob := fun b ob hb q =>
      (sb.2 b fun z => hb (by simp [z])).trans (hk b ob (fun z => hb (by simp [z])) (fun z => hb (by simp [z])) q)
    have I1 : Inv X pins σ (upd H s.heap.objs.size (.tup [.int (i : Nat), x])) { s with heap := g2, toks := tk + 1 } := I.turnedNew (ch := [e, it]) old2 hf (Nat.le_refl _) new
    refine ⟨.ref s.heap.objs.size, _, I1, rfl, ⟨_, x, rfl, I.hok.fresh (Nat.le_refl _), rfl, fun ys hy => by rw [I.tuple_inj hy hq]; exact hx⟩, ⟨⟨y, ?_⟩, hst.1.at fun o q => (sb.2 it (Ne.symm hne)).trans q, hne⟩, fun b hb => ?_⟩
    · show IsEnum g2 e it ((i + 1 : Nat) : Int) y
      rw [show ((i + 1 : Nat) : Int) = (i : Int) + 1 by omega]
      exact he'
    · have lb : b < s.heap.objs.size := by
        rcases List.mem_cons.mp hb with z | z
        · rw [z]; exact le
        · rw [List.mem_singleton.mp z]; exact li
      rw [upd_ne (Nat.ne_of_lt lb)]
      exact (hf b hb).1
  done := by
    intro X hP hw hK hc i pins s σ H E I hf st hg
    subst hP hw hK
    obtain ⟨⟨old, he⟩, hit, hne⟩ := st
    obtain ⟨xs, hq, hx⟩ := hg
    obtain ⟨its, rv, p, hz⟩ := I.tuple hq
    obtain ⟨f0, f1, f2, f3, f4, f5⟩ := hf it (by simp)
    have hn := rv.length
    have hai : a ≠ it := tup_ne p hit
    have D : Draws X.prog X.w X.A.in1 it [it, a] i (fun _ _ => False) (fun j h => h.IsTupleIter it a j ∧ h.IsTuple a its.toArray ∧ j = i) :=
      { live := fun _ _ st => let ⟨o, ho, _⟩ := st.1; ⟨o, ho⟩
        frame := fun _ _ _ st hk => ⟨st.1.at fun o e => hk it (by simp) o e, st.2.1.at fun o e => hk a (by simp) o e, st.2.2⟩
        item := fun j s Q E hj st _ => absurd st.2.2 (Nat.ne_of_lt hj)
        done := fun s Q E st hE => RZ.nextOf_tuple_end (show X.A.in1.handled = none from I.ok.hd hc) st.1 st.2.1 (by simp; omega) hE }
    exact wpAny_pyNext_enum_endD D he ⟨hit, p, rfl⟩ fun g eb => ⟨rfl, I.turned (t' := s.toks) (fun b o hb q => eb b o hb q) f0 f1 f3 f4 f5⟩
  self := fun A i s Q E st h => let ⟨⟨_, he⟩, _⟩ := st; wpAny_pyIter_enum he h
def iEnumT (K : PySem.W.Frag) (ta : TA) : TI := fun σ H R => ta σ H fun vs H1 => ∃ a xs, vs = [.ref a] ∧ SqT K H1 a xs ∧ R (IteT K a) H1
theorem pi_enumT {X : Cx} {e : Expr} {ta : TA} {p pos tpos : Pos} {elts : List Expr} {kk : Nat} (hg : Gl X "enumerate") (hm : X.mg "enumerate" = none) (ha : PA X [e] ta) (hs : starEach [e] X.env = [(false, eval e X.env)] := by rfl) :
    PI X (.Tuple elts kk tpos) (.Call (.Name "enumerate" p) [e] [] pos) (iEnumT X.K ta) := by
  refine ⟨fun pins s σ H R I h => ?_⟩
  refine Call_ (ld_blt I hg hm boot_enumerate (PyProof.Rows.callWith_type1 (thn (ha.run pos pins s σ H _ I h) fun us s1 hv => ?_) hs rfl))
  obtain ⟨vs, H1, I1, r1, a, xs, rfl, hq, q⟩ := hv
  obtain rfl := Vals.ref1 r1
  obtain ⟨its, rv, p', hz⟩ := I1.tuple hq
  refine enum_of (begins_tuple a its.toArray) p' fun g he hit hsz hk => wpAny_pyIter_enum he ?_
  refine ⟨s1.heap.objs.size + 1, [s1.heap.objs.size + 1, s1.heap.objs.size], _, _, H1, rfl, I1.kept (t' := s1.toks) hk, turn_enumT a (s1.heap.objs.size + 1) s1.heap.objs.size, ⟨⟨.none, he⟩, ⟨_, hit, rfl, rfl⟩, Nat.succ_ne_self _⟩, fun b hb => ?_, q⟩
  have le : s1.heap.objs.size ≤ b := by
    rcases List.mem_cons.mp hb with z | z
    · rw [z]; exact Nat.le_add_right _ _
    · rw [List.mem_singleton.mp z]; exact Nat.le_refl _
  exact I1.fpOk le (I1.hok.fresh le)
end Tl
end S_Ya
section S_Yw
namespace Tl
open PySem PySem.Spec PyProof.Rows L2
open Evl
/-! ### walks that only lay new objects -/
/-- C holds what came between A and B -/
abbrev Since (A B C : Hp) : Prop := ∀ a o, A a = none → B a = some o → C a = some o
/-- what a for walks: n turns, told by Y, as long as what stood at H stays, and what is new -/
def EvI (wi : TI) (σ : L2.St) (H : Hp) (n : Nat) (Y : Nat → Hp → V → Hp → Prop) : Prop := ∀ H1, Ex H H1 → ∀ R : It → Hp → Prop,
  (∀ (J : It) (G : Hp → Prop) H2, Ex H1 H2 → Walk J n G Y → (∀ A, Ex H A → Since H1 H2 A → G A) → R J H2) → wi σ H1 R
/-- a value of which R holds, in each heap that has what stood at H and what is new -/
def EvN (te : TE) (σ : L2.St) (H : Hp) (R : V → Hp → Prop) : Prop := ∀ H1, Ex H H1 → ∀ Q : VK, (∀ v H2, Ex H1 H2 → (∀ H3, Ex H H3 → Since H1 H2 H3 → R v H3) → Q v H2) → te σ H1 Q
/-- a new list: what it holds is told by L -/
def EvNL (te : TE) (σ : L2.St) (H : Hp) (L : List V → Hp → Prop) : Prop := ∀ H1, Ex H H1 → ∀ Q : VK,
  (∀ p xs H2, H1 p = none → Ex H1 H2 → H2 p = some (.lst xs) → (∀ H3, Ex H H3 → (∀ a o, a ≠ p → H1 a = none → H2 a = some o → H3 a = some o) → L xs H3) → Q (.ref p) H2) → te σ H1 Q
/-- the target's stores -/
def Aims (g : TG) (n : Nat) (Y : Nat → Hp → V → Hp → Prop) (s : Nat → L2.St → L2.St) : Prop := ∀ i σ H x H', i < n → Y i H x H' → Ex H H' ∧ ∀ Q : L2.St → Hp → Prop, Q (s i σ) H' → g x σ H' Q
theorem aims_at {xs : List V} {j : Nat} : Aims (gName j) xs.length (YAt xs) (fun i σ => σ.set j (some (xs.getD i .non))) := fun i σ H x H' hi y => by
  obtain ⟨rfl, hx⟩ := y
  obtain rfl : xs.getD i .non = x := by rw [List.getD_eq_getElem?_getD, hx]; rfl
  exact ⟨Ex.refl _, fun Q q => q⟩
theorem aims_fn {f : Nat → V} {n j : Nat} : Aims (gName j) n (YFn f) (fun i σ => σ.set j (some (f i))) := fun i σ H x H' hi y => by
  obtain ⟨rfl, rfl⟩ := y
  exact ⟨Ex.refl _, fun Q q => q⟩
/-- a pair of the turn's number and the item -/
theorem aims_enum {K : PySem.W.Frag} {xs : List V} {j1 j2 : Nat} : Aims (gTup K 2 (gCons (gName j1) (gCons (gName j2) gNil))) xs.length (YPair (fun i => some (.int (i : Nat))) (fun i => xs[i]?))
    (fun i σ => (σ.set j1 (some (.int (i : Nat)))).set j2 (some (xs.getD i .non))) := fun i σ H v H' hi y => by
  obtain ⟨T, x, y, rfl, hT, rfl, h1, h2⟩ := y
  cases h1
  have h3 : xs[i]? = some y := h2
  obtain rfl : xs.getD i .non = y := by rw [List.getD_eq_getElem?_getD, h3]; rfl
  exact ⟨Ex.new hT, fun Q q => ⟨T, _, rfl, st_of upd_same, rfl, _, _, rfl, _, _, rfl, rfl, q⟩⟩
section
variable {K : PySem.W.Frag} {σ : L2.St} {H : Hp}
theorem ei_list {a : Addr} {xs : List V} {tl : TE} (h : Ev tl σ H (.ref a)) (hx : SqL K H a xs) : EvI (iList K tl) σ H xs.length (YAt xs) := fun H1 e R k =>
  h H1 e _ fun H2 e2 => ⟨a, rfl, ⟨xs, ex_l (e.trans e2) hx⟩, k _ _ H2 e2 walk_list fun A ab _ => ex_l ab hx⟩
theorem ei_listN {xs : List V} {tl : TE} (h : EvL tl σ H xs) : EvI (iList K tl) σ H xs.length (YAt xs) := fun H1 e R k =>
  h H1 e _ fun a H2 ha e2 hx => ⟨a, rfl, ⟨xs, sq_of hx⟩, k _ _ H2 e2 walk_list fun A _ ab => sq_of (ab _ _ ha hx)⟩
theorem ei_tup {a : Addr} {xs : List V} {tl : TE} (h : Ev tl σ H (.ref a)) (hx : SqT K H a xs) : EvI (iTup K tl) σ H xs.length (YAt xs) := fun H1 e R k =>
  h H1 e _ fun H2 e2 => ⟨a, rfl, ⟨xs, ex_t (e.trans e2) hx⟩, k _ _ H2 e2 walk_tup fun A ab _ => ex_t ab hx⟩
theorem walk_enumT {a : Addr} {xs : List V} : Walk (IteT K a) xs.length (fun H => SqT K H a xs) (YPair (fun i => some (.int (i : Nat))) (fun i => xs[i]?)) := by
  refine ⟨fun i _ hi q => ⟨xs, xs[i], q, by simp [hi]⟩, fun _ q => ⟨xs, q, Nat.le_refl _⟩, fun i H v H' _ q y => ?_⟩
  obtain ⟨T, x, h1, h2, h3, h4⟩ := y
  exact ⟨T, .int (i : Nat), x, h1, h2, h3, rfl, h4 xs q⟩
theorem ei_enum {a : Addr} {xs : List V} {ta : TA} (h : EvA ta σ H [.ref a]) (hx : SqL K H a xs) : EvI (iEnum K ta) σ H xs.length (YPair (fun i => some (.int (i : Nat))) (fun i => xs[i]?)) := fun H1 e R k =>
  h H1 e _ fun H2 e2 => ⟨a, xs, rfl, ex_l (e.trans e2) hx, k _ _ H2 e2 walk_enum fun A ab _ => ex_l ab hx⟩
theorem ei_enumT {a : Addr} {xs : List V} {ta : TA} (h : EvA ta σ H [.ref a]) (hx : SqT K H a xs) : EvI (iEnumT K ta) σ H xs.length (YPair (fun i => some (.int (i : Nat))) (fun i => xs[i]?)) := fun H1 e R k =>
  h H1 e _ fun H2 e2 => ⟨a, xs, rfl, ex_t (e.trans e2) hx, k _ _ H2 e2 walk_enumT fun A ab _ => ex_t ab hx⟩
theorem ei_rng1 {ta : TA} {j : Int} (h : EvA ta σ H [.int j]) (h0 : 0 ≤ j) (h1 : j ≤ 100000) : EvI (iRng1 ta) σ H j.toNat (YFn fun i => .int (0 + i)) := fun H1 e R k =>
  h H1 e _ fun H2 e2 => ⟨j, rfl, by omega, by omega, k _ _ H2 e2 walk_range fun _ _ _ => trivial⟩
theorem ei_rng2 {ta : TA} {i j : Int} (h : EvA ta σ H [.int i, .int j]) (h0 : -100000 ≤ i ∧ i ≤ 100000) (h1 : -100000 ≤ j ∧ j ≤ 100000) : EvI (iRng2 ta) σ H (j - i).toNat (YFn fun k => .int (i + k)) := fun H1 e R k =>
  h H1 e _ fun H2 e2 => ⟨i, j, rfl, ⟨by omega, by omega, by omega, by omega⟩, k _ _ H2 e2 walk_range fun _ _ _ => trivial⟩
theorem en_v {te : TE} {v : V} (h : Ev te σ H v) : EvN te σ H (fun u _ => u = v) := fun H1 e Q q => h H1 e Q fun H2 e2 => q v H2 e2 fun _ _ _ => rfl
theorem en_l {te : TE} {xs : List V} (h : EvL te σ H xs) : EvN te σ H (fun u H' => ∃ a, u = .ref a ∧ H' a = some (.lst xs)) := fun H1 e Q q => h H1 e Q fun p H2 hp e2 h2 => q _ H2 e2 fun H3 _ s => ⟨p, rfl, s _ _ hp h2⟩
theorem en_u {te : TE} {xs : List V} (h : ∀ H1, Ex H H1 → ∀ Q : VK, (∀ p H2, H1 p = none → Ex H1 H2 → H2 p = some (.tup xs) → Q (.ref p) H2) → te σ H1 Q) : EvN te σ H (fun u H' => ∃ a, u = .ref a ∧ H' a = some (.tup xs)) := fun H1 e Q q => h H1 e Q fun p H2 hp e2 h2 => q _ H2 e2 fun H3 _ s => ⟨p, rfl, s _ _ hp h2⟩
theorem en_nl {te : TE} {L : List V → Hp → Prop} (h : EvNL te σ H L) : EvN te σ H (fun u H' => ∃ a xs, u = .ref a ∧ H' a = some (.lst xs) ∧ L xs H') := fun H1 e Q q => h H1 e Q fun p xs H2 hp e2 h2 hL => q _ H2 e2 fun H3 e3 s => ⟨p, xs, rfl, s _ _ hp h2, hL H3 e3 fun a o _ ha hb => s a o ha hb⟩
/-- what the comprehension's list holds: what R tells, turn by turn -/
def Holds (R : Nat → V → Hp → Prop) (n : Nat) (xs : List V) (H : Hp) : Prop := xs.length = n ∧ ∀ i v, xs[i]? = some v → R i v H
theorem snoc_at {xs : List V} {v u : V} {i : Nat} (h : (xs ++ [v])[i]? = some u) : (i < xs.length ∧ xs[i]? = some u) ∨ (i = xs.length ∧ v = u) := by
  rcases Nat.lt_or_ge i xs.length with hi | hi
  · rw [List.getElem?_append_left hi] at h
    exact .inl ⟨hi, h⟩
  · rw [List.getElem?_append_right hi] at h
    have e : i - xs.length = 0 := by
      have := (List.getElem?_eq_some_iff.mp h).1
      simp at this
      omega
    rw [e] at h
    cases h
    exact .inr ⟨by omega, rfl⟩
theorem en_lc {wi : TI} {g : TG} {te : TE} {vs : List Nat} {n : Nat} {Y : Nat → Hp → V → Hp → Prop} {s : Nat → L2.St → L2.St} (hw : EvI wi σ H n Y) (aim : Aims g n Y s) (hs : ∀ i, wipe (s i (wipe σ vs)) vs = wipe σ vs) (hn : n ≤ 90000)
    (R : Nat → V → Hp → Prop) (he : ∀ i, i < n → EvN te (s i (wipe σ vs)) H (R i)) : EvNL (tLc wi g tYes te vs) σ H (Holds R n) := fun H1 e Q q =>
  hw H1 e _ fun J G H2 e2 w sG D hD => lc_it w (fun i H' => Ex H2 H' ∧ ∃ acc, H' D = some (.lst acc) ∧ acc.length = i ∧ ∀ k v, acc[k]? = some v → ∀ H3, Ex H H3 → (∀ a o, a ≠ D → H1 a = none → H' a = some o → H3 a = some o) → R k v H3)
    ⟨Ex.new hD, [], upd_same, rfl, fun i v h => by simp at h⟩ (fun i H' _ p => sG H' ((e.trans e2).trans p.1) fun a o _ ha => p.1 _ _ ha)
    (fun i x A B hi p y => by
      obtain ⟨p1, acc, p3, p4, p5⟩ := p
      obtain ⟨ab, k⟩ := aim i (wipe σ vs) A x B hi y
      refine k _ ⟨hs i, ?_⟩
      show te (s i (wipe σ vs)) B _
      have hHB : Ex H B := ((e.trans e2).trans p1).trans ab
      refine he i hi B hHB _ fun v C eC hv => ⟨acc, eC _ _ (ab _ _ p3), sz_lt (by omega), ?_, acc ++ [v], upd_same, by rw [List.length_append, p4] <;> rfl, fun k u hk H3 h3 keep => ?_⟩
      · exact ((p1.trans ab).trans eC).mut hD
      · have at4 : ∀ a o, a ≠ D → H1 a = none → C a = some o → H3 a = some o := fun a o hne hn hc => keep a o hne hn (by rw [upd_ne hne]; exact hc)
        rcases snoc_at hk with ⟨hlt, hk⟩ | ⟨rfl, rfl⟩
        · exact p5 k u hk H3 h3 fun a o hne hn ha => at4 a o hne hn (eC _ _ (ab _ _ ha))
        · rw [p4]
          refine hv H3 h3 fun a o hb hc => at4 a o (fun z => ?_) (fresh_back ((e2.trans p1).trans ab) hb) hc
          rw [z, ab _ _ p3] at hb
          cases hb)
    (fun H' p => by
      obtain ⟨p1, acc, p3, p4, p5⟩ := p
      exact q D acc H' (fresh_back e2 hD) (e2.trans p1) p3 fun H3 h3 keep => ⟨p4, fun i v hv => p5 i v hv H3 h3 keep⟩)
/-- two walks, one in another: what the list holds is told by the row of b's -/
def Row2 {β : Type} (Rb : β → V → Hp → Prop) (bs : List β) (xs : List V) (H : Hp) : Prop := xs.length = bs.length ∧ ∀ (k : Nat) (b : β) (v : V), bs[k]? = some b → xs[k]? = some v → Rb b v H
def els {β : Type} (m : Nat → Nat) (f : Nat → Nat → Bool) (b : Nat → Nat → β) (i : Nat) : List β := ((List.range (m i)).filter (f i)).map (b i)
def rows {β : Type} (m : Nat → Nat) (f : Nat → Nat → Bool) (b : Nat → Nat → β) (n : Nat) : List β := (List.range n).flatMap (els m f b)
theorem rows_succ {β : Type} {m : Nat → Nat} {f : Nat → Nat → Bool} {b : Nat → Nat → β} {n : Nat} : rows m f b (n + 1) = rows m f b n ++ els m f b n := by
  unfold rows
  rw [List.range_succ, List.flatMap_append]
  simp
def part {β : Type} (f : Nat → Bool) (b : Nat → β) (j : Nat) : List β := ((List.range j).filter f).map b
theorem part_succ {β : Type} {f : Nat → Bool} {b : Nat → β} {j : Nat} : part f b (j + 1) = part f b j ++ (if f j = true then [b j] else []) := by
  unfold part
  rw [List.range_succ, List.filter_append, List.map_append]
  congr 1
  cases h : f j <;> simp [h]
theorem part_le {β : Type} {f : Nat → Bool} {b : Nat → β} {j k : Nat} (h : j ≤ k) : (part f b j).length ≤ (part f b k).length := by
  induction k with
  | zero => rw [Nat.le_zero.mp h] <;> exact Nat.le_refl _
  | succ k ih =>
    rcases Nat.lt_or_ge k j with h2 | h2
    · rw [show j = k + 1 by omega] <;> exact Nat.le_refl _
    · rw [part_succ, List.length_append]
      exact Nat.le_trans (ih h2) (Nat.le_add_right _ _)
theorem rows_le {β : Type} {m : Nat → Nat} {f : Nat → Nat → Bool} {b : Nat → Nat → β} {j k : Nat} (h : j ≤ k) : (rows m f b j).length ≤ (rows m f b k).length := by
  induction k with
  | zero => rw [Nat.le_zero.mp h] <;> exact Nat.le_refl _
  | succ k ih =>
    rcases Nat.lt_or_ge k j with h2 | h2
    · rw [show j = k + 1 by omega] <;> exact Nat.le_refl _
    · rw [rows_succ, List.length_append]
      exact Nat.le_trans (ih h2) (Nat.le_add_right _ _)
theorem en_lc2 {β : Type} {wi wi1 : TI} {g g1 : TG} {tt1 : TT} {te : TE} {vs vs1 : List Nat} {n : Nat} {m : Nat → Nat} {Y : Nat → Hp → V → Hp → Prop} {Y1 : Nat → Nat → Hp → V → Hp → Prop} {s : Nat → L2.St → L2.St} {s1 : Nat → Nat → L2.St → L2.St}
    (hw : EvI wi σ H n Y) (aim : Aims g n Y s) (hs : ∀ i, wipe (s i (wipe σ vs)) vs = wipe σ vs)
    (hw1 : ∀ i, i < n → EvI wi1 (s i (wipe σ vs)) H (m i) (Y1 i)) (aim1 : ∀ i, Aims g1 (m i) (Y1 i) (s1 i)) (hs1 : ∀ i j, wipe (s1 i j (wipe (s i (wipe σ vs)) vs1)) vs1 = wipe (s i (wipe σ vs)) vs1)
    (f : Nat → Nat → Bool) (b : Nat → Nat → β) (Rb : β → V → Hp → Prop) (ht : ∀ i j, i < n → j < m i → EvT tt1 (s1 i j (wipe (s i (wipe σ vs)) vs1)) H (f i j))
    (he : ∀ i j, i < n → j < m i → f i j = true → EvN te (s1 i j (wipe (s i (wipe σ vs)) vs1)) H (Rb (b i j))) (hz : (rows m f b n).length ≤ 90000) :
    EvNL (tLc2 wi g tYes wi1 g1 tt1 te vs vs1) σ H (Row2 Rb (rows m f b n)) := fun H1 e Q q => by
  refine hw H1 e _ fun J G H2 e2 w sG D hD => ?_
  -- what stands while ds are made
  let St : List β → Hp → Prop := fun ds H' => Ex H2 H' ∧ ∃ acc, H' D = some (.lst acc) ∧ acc.length = ds.length ∧ ∀ (k : Nat) (d : β) (v : V), ds[k]? = some d → acc[k]? = some v → ∀ H3, Ex H H3 → (∀ a o, a ≠ D → H1 a = none → H' a = some o → H3 a = some o) → Rb d v H3
  have grow : ∀ {ds : List β} {A B : Hp}, St ds A → Ex A B → St ds B := fun {ds A B} p ab => by
    obtain ⟨p1, acc, p3, p4, p5⟩ := p
    exact ⟨p1.trans ab, acc, ab _ _ p3, p4, fun k d v h1 h2 H3 h3 keep => p5 k d v h1 h2 H3 h3 fun a o hne hn ha => keep a o hne hn (ab _ _ ha)⟩
  refine ⟨fun i k H' => k = n - i ∧ i ≤ n ∧ St (rows m f b i) H', ⟨n, by simp, Nat.zero_le _, Ex.new hD, [], upd_same, rfl, fun k d v h => by simp [rows] at h⟩, ?_⟩
  rintro i k A ⟨rfl, hin, p⟩
  have gA : G A := sG A ((e.trans e2).trans p.1) fun a o _ ha => p.1 _ _ ha
  by_cases hi : i < n
  · refine .inr ⟨w.goes i A hi gA, St (rows m f b (i + 1)), fun H' p' => ⟨n - (i + 1), by omega, rfl, hi, p'⟩, fun x B yl => ?_⟩
    have y := w.yields i A x B hi gA yl
    obtain ⟨ab, k⟩ := aim i (wipe σ vs) A x B hi y
    refine k _ ⟨hs i, ?_⟩
    have pB := grow p ab
    refine hw1 i hi B (((e.trans e2).trans p.1).trans ab) _ fun J1 G1 C bC w1 sG1 => ?_
    refine ⟨fun j k H' => k = m i - j ∧ j ≤ m i ∧ St (rows m f b i ++ part (f i) (b i) j) H' ∧ Since B C H', ⟨m i, by simp, Nat.zero_le _, ?_, fun _ _ _ h => h⟩, ?_⟩
    · simpa [part] using grow pB bC
    · rintro j k H' ⟨rfl, hj, pj, sj⟩
      have gj : G1 H' := sG1 H' ((e.trans e2).trans pj.1) sj
      by_cases hlt : j < m i
      · refine .inr ⟨w1.goes j H' hlt gj, fun H4 => St (rows m f b i ++ part (f i) (b i) (j + 1)) H4 ∧ Since B C H4, fun H4 p4 => ⟨m i - (j + 1), by omega, rfl, hlt, p4⟩, fun x1 B1 y1 => ?_⟩
        obtain ⟨ab1, k1⟩ := aim1 i j (wipe (s i (wipe σ vs)) vs1) H' x1 B1 hlt (w1.yields j H' x1 B1 hlt gj y1)
        refine k1 _ ⟨hs1 i j, ?_⟩
        have pB1 := grow pj ab1
        refine ht i j hi hlt B1 ((e.trans e2).trans pB1.1) _ fun H6 e6 => ?_
        have p6 := grow pB1 e6
        have s6 : Since B C H6 := fun a o ha hc => e6 _ _ (ab1 _ _ (sj a o ha hc))
        rw [part_succ]
        cases hf : f i j with
        | false =>
          show St _ H6 ∧ Since B C H6
          rw [if_neg (by decide), List.append_nil]
          exact ⟨p6, s6⟩
        | true =>
          refine he i j hi hlt hf H6 ((e.trans e2).trans p6.1) _ fun v C6 eC hv => ?_
          obtain ⟨q1, acc, q3, q4, q5⟩ := p6
          have small : acc.length < 90000 := by
            rw [q4, List.length_append]
            have a1 : (rows m f b (i + 1)).length ≤ 90000 := Nat.le_trans (rows_le hi) hz
            rw [rows_succ, List.length_append] at a1
            have a2 : (part (f i) (b i) (j + 1)).length ≤ (els m f b i).length := part_le (f := f i) (b := b i) (show j + 1 ≤ m i from hlt)
            rw [part_succ, hf, List.length_append] at a2
            simp at a2
            omega
          refine ⟨acc, eC _ _ q3, sz_lt (by omega), ⟨(q1.trans eC).mut hD, acc ++ [v], upd_same, ?_, ?_⟩, ?_⟩
          · rw [if_pos rfl, ← List.append_assoc, List.length_append, List.length_append, q4, List.length_append]
            rfl
          · intro k d u hd hu H3 h3 keep
            have at4 : ∀ a o, a ≠ D → H1 a = none → C6 a = some o → H3 a = some o := fun a o hne hn hc => keep a o hne hn (by rw [upd_ne hne]; exact hc)
            rw [if_pos rfl, ← List.append_assoc] at hd
            rcases snoc_at hu with ⟨hlt2, hu2⟩ | ⟨rfl, rfl⟩
            · rw [q4] at hlt2
              rw [List.getElem?_append_left hlt2] at hd
              exact q5 k d u hd hu2 H3 h3 fun a o hne hn ha => at4 a o hne hn (eC _ _ ha)
            · rw [q4, List.getElem?_append_right (Nat.le_refl _), Nat.sub_self] at hd
              cases hd
              refine hv H3 h3 fun a o hb hc => at4 a o (fun z => ?_) (fresh_back (e2.trans q1) hb) hc
              rw [z, q3] at hb
              cases hb
          · intro a o ha hc
            rw [upd_ne (fun z => ?_)]
            · exact eC _ _ (s6 a o ha hc)
            · obtain ⟨acc0, r3, _⟩ := pB.2
              rw [z, r3] at ha
              cases ha
      · have ej : j = m i := by omega
        subst ej
        refine .inl ⟨w1.stops H' gj, ?_⟩
        show St (rows m f b (i + 1)) H'
        rw [rows_succ]
        exact pj
  · have ei : i = n := by omega
    subst ei
    refine .inl ⟨w.stops A gA, ?_⟩
    obtain ⟨p1, acc, p3, p4, p5⟩ := p
    exact q D acc A (fresh_back e2 hD) (e2.trans p1) p3 fun H3 h3 keep => ⟨p4, fun k d v h1 h2 => p5 k d v h1 h2 H3 h3 keep⟩
/-- the dict of the first keys, each with True -/
def dOf (kf : Nat → Int) : Nat → List (L2.Key × V)
  | 0 => []
  | i + 1 => putK (dOf kf i) (.inl (kf i)) (.bl true)
theorem dOf_len (kf : Nat → Int) : ∀ n, (dOf kf n).length ≤ n
  | 0 => Nat.le_refl _
  | n + 1 => Nat.le_trans (length_putK _ _ _) (Nat.succ_le_succ (dOf_len kf n))
theorem dOf_at (kf : Nat → Int) (x : Int) : ∀ n, (valV (dOf kf n) (.inl x)).isSome = true ↔ ∃ i, i < n ∧ kf i = x
  | 0 => ⟨fun h => (by cases h), fun ⟨i, h, _⟩ => absurd h (Nat.not_lt_zero i)⟩
  | n + 1 => by
    show (valV (putK (dOf kf n) (.inl (kf n)) (.bl true)) (.inl x)).isSome = true ↔ _
    rw [valV_put]
    by_cases e : (Sum.inl x : L2.Key) = .inl (kf n)
    · rw [if_pos e]
      exact ⟨fun _ => ⟨n, Nat.lt_succ_self n, (Sum.inl.inj e).symm⟩, fun _ => rfl⟩
    · rw [if_neg e, dOf_at kf x n]
      constructor
      · rintro ⟨i, h1, h2⟩
        exact ⟨i, Nat.lt_succ_of_lt h1, h2⟩
      · rintro ⟨i, h1, h2⟩
        refine ⟨i, Nat.lt_of_le_of_ne (Nat.le_of_lt_succ h1) fun z => ?_, h2⟩
        rw [z] at h2
        exact e (by rw [h2])
theorem en_dc {wi : TI} {g : TG} {tk tv : TE} {vs : List Nat} {n : Nat} {Y : Nat → Hp → V → Hp → Prop} {s : Nat → L2.St → L2.St} {kf : Nat → Int} (hw : EvI wi σ H n Y) (aim : Aims g n Y s) (hs : ∀ i, wipe (s i (wipe σ vs)) vs = wipe σ vs) (hn : n ≤ 90000)
    (hk : ∀ i, i < n → Ev tk (s i (wipe σ vs)) H (.int (kf i))) (hv : ∀ i, i < n → Ev tv (s i (wipe σ vs)) H (.bl true)) : EvN (tDc wi g tYes tk tv vs) σ H (fun u H' => ∃ d, u = .ref d ∧ H' d = some (.dK (dOf kf n))) := fun H1 e Q q =>
  hw H1 e _ fun J G H2 e2 w sG D hD => by
    refine ⟨fun i m H' => m = n - i ∧ i ≤ n ∧ Ex H2 H' ∧ H' D = some (.dK (dOf kf i)), ⟨n, by simp, Nat.zero_le _, Ex.new hD, upd_same⟩, ?_⟩
    rintro i m A ⟨rfl, hin, p1, p2⟩
    have gA : G A := sG A ((e.trans e2).trans p1) fun a o _ ha => p1 _ _ ha
    by_cases hi : i < n
    · refine .inr ⟨w.goes i A hi gA, fun H' => Ex H2 H' ∧ H' D = some (.dK (dOf kf (i + 1))), fun H' p' => ⟨n - (i + 1), by omega, rfl, hi, p'⟩, fun x B yl => ?_⟩
      obtain ⟨ab, k⟩ := aim i (wipe σ vs) A x B hi (w.yields i A x B hi gA yl)
      refine k _ ⟨hs i, ?_⟩
      refine hk i hi B (((e.trans e2).trans p1).trans ab) _ fun C eC => ?_
      refine hv i hi C ((((e.trans e2).trans p1).trans ab).trans eC) _ fun C2 eC2 => ?_
      have := dOf_len kf i
      exact ⟨dOf kf i, .inl (kf i), rfl, eC2 _ _ (eC _ _ (ab _ _ p2)), sz_lt (by omega), (((p1.trans ab).trans eC).trans eC2).mut hD, upd_same⟩
    · have ei : i = n := by omega
      subst ei
      refine .inl ⟨w.stops A gA, q _ A (e2.trans p1) fun H3 h3 keep => ⟨D, rfl, keep _ _ (fresh_back e2 hD) p2⟩⟩
theorem ev_din {ty td : TE} {d : Addr} {kvs : List (L2.Key × V)} {x : Int} (h1 : Ev ty σ H (.int x)) (h2 : Ev td σ H (.ref d)) (hd : H d = some (.dK kvs)) : Ev (tDIn ty td) σ H (.bl (valV kvs (.inl x)).isSome) := fun H1 e Q q =>
  h1 H1 e _ fun H2 e2 => h2 H2 (e.trans e2) _ fun H3 e3 => ⟨d, _, rfl, DGet.k (k := Sum.inl x) (((e.trans e2).trans e3) _ _ hd), q H3 (e2.trans e3)⟩
end
end Tl
end S_Yw
section S_Wa
namespace Hk
open PySem PySem.Spec PyProof.Rows L2
/-! ### a caught error that is kept behind its try -/
/-- at a stands an error of the class cls, whose own dict is d -/
def ErrAt (cls : Value) (d : Option Addr) (a : Addr) : HO := .ext fun h => ∃ (oe : Obj) (vs : Array Value), h.get? a = some oe ∧ Zc cls d oe ∧ oe.data = .fields vs
section
variable {X : Cx} {pins : List (Addr × Obj)} {σ : L2.St} {H : Hp} {s : Shared}
/-- what stands at a, new since the entry, is told of from now on -/
theorem told_at {a : Addr} {oe : Obj} {vs : Array Value} {cls : Value} {d : Option Addr} (I : Inv X pins σ H s) (at_ : s.heap.get? a = some oe) (z : Zc cls d oe) (hd : oe.data = .fields vs) (na : H a = none) (n0 : X.s_0.heap.get? a = none) (nL : a ≠ X.env.locals)
    (np : ∀ p ∈ X.pn ++ pins, p.1 ≠ a) : Inv X pins σ (upd H a (ErrAt cls d a)) s where
  ok := I.ok
  os := I.os
  bare := I.bare
  base :=
    { keep := I.base.keep, slot := I.base.slot, there := I.base.there
      free := fun b o e n x => by
        have hb : b ≠ a := fun q => by rw [q, n0] at e; cases e
        rw [upd_ne hb]; exact I.base.free b o e n x
      tups := fun b xs e => by
        have q := I.base.tups b xs e
        rw [upd_ne (ne_of_none q na)]; exact q
      frzs := fun b o xs e => by
        have q := I.base.frzs b o xs e
        rw [upd_ne (ne_of_none q na)]; exact q
      tbls := fun b ps e => by
        obtain ⟨m, q⟩ := I.base.tbls b ps e
        exact ⟨m, by rw [upd_ne (ne_of_none q na)]; exact q⟩ }
  loc := I.loc
  cell := I.cell
  free := by rw [upd_ne (Ne.symm nL)]; exact I.free
  freeC := fun x c e => by
    have hb : c ≠ a := fun q => by
      obtain ⟨v, o, ho, hc⟩ := I.cell x c e
      rw [q, at_] at ho
      cases ho
      rw [hd] at hc
      cases hc
    rw [upd_ne hb]; exact I.freeC x c e
  pin := fun p hp => by
    obtain ⟨h1, h2, h3⟩ := I.pin p hp
    exact ⟨h1, by rw [upd_ne (np p hp)]; exact h2, h3⟩
  hok := fun b u e => by
    by_cases hb : b = a
    · subst hb
      rw [upd_same] at e
      cases e
      exact ⟨⟨oe, vs, at_, z, hd⟩, ⟨oe, at_⟩, fun _ _ ⟨o, v, q, r⟩ k => ⟨o, v, k o q, r⟩⟩
    · rw [upd_ne hb] at e
      exact (I.hok b u e).stay (fun _ _ _ q => q) (fun c q => by rw [upd_ne (ne_of_none q na)]; exact q) fun c xs q => by rw [upd_ne (ne_of_none q na)]; exact q
  len := I.len
/-- the wish of the body of such a try: the clause takes every error of the body; the slot i is the clause's name's -/
def wKeep (K : PySem.W.Frag) (c : Value) (i : Nat) (ts : Addr → Value → Option Addr → TS) (D : Ends) : WX := fun cls d σ H =>
  PySem.W.exmOne K cls c = some true ∧ ∀ a, H a = none → ts a cls d { nx := fun σ' H' => H' a = none → D.nx (σ'.set i none) (upd H' a (ErrAt cls d a)), rt := fun _ _ => False, bk := fun _ _ => False, ct := fun _ _ => False } (σ.set i (some (.ref a))) H
theorem ps_keep {x n : Str} {c : Value} {i : Nat} {body suite : List Stmt} {b₀ : Stmt} {np pos pos' : Pos} {tb : WX → TS} {ts : Addr → Value → Option Addr → TS}
    (hst : X.stack = X.env :: X.outer) (hf : X.env.frame = some X.env.locals) (hex : X.ex = []) (nd : X.N.Nodup) (hi : X.N[i]? = some n) (kn : X.env.kindOf n = some .local) (hc : Names X x c)
    (hb : ∀ (W : WX) (pn : List (Addr × Obj)) (xe : Value → Shared → Prop), Takes (X.tr pn xe) W → PassesOwn (model X.prog X.w) X.A X.env xe → PSs (X.tr pn xe) body (tb W))
    (hsu : ∀ (a : Addr) (oe : Obj) (cls : Value) (d : Option Addr) (pn : List (Addr × Obj)), Zc cls d oe → (∃ vs, oe.data = .fields vs) → PSs (X.suite a ((a, oe) :: pn)) (b₀ :: suite) (ts a cls d)) :
    PS X (.Try body [.ExceptHandler (some (.Name x np)) (some n) (b₀ :: suite) pos'] [] [] pos) (fun D σ H => tb (wKeep X.K c i ts D) D σ H) := by
  constructor
  intro pins s σ H D I h
  have frs_ : X.A.frames = some (X.env :: X.outer) := by rw [I.ok.frames, hst]
  have ok := I.ok
  refine wpAny_Try_except (wpAny_mono ((hb (wKeep X.K c i ts D) (X.pn ++ pins) (fun e s₁ => wpAny (model X.prog X.w) X.A (noteFrame e X.env) (fun _ s₂ => wpAny (model X.prog X.w) X.A (setFlight e none) (fun _ s₃ =>
    wpAny (model X.prog X.w) X.A (handleBy e X.env [.ExceptHandler (some (.Name x np)) (some n) (b₀ :: suite) pos']) (SP X pins D) X.xe s₃) X.xe s₂) X.xe s₁) (fun u s' air => ?_) PassesOwn.looking).run [] s σ H D (I.toTry _) h) (fun f s1 hsp => ?_) fun _ _ z => z)
  · obtain ⟨a, B, sI, pins', σ', H', cls, d, rfl, J0, nb, up, sky, na, os, ag, hexm, hts⟩ := air
    have J : Inv X pins σ' H' sI := J0.ofTry ok
    have Ba : B.get? a = none := by
      rcases sky with q | q | q
      · exact q.2.1
      · exact q.2.1
      · exact q.2.1
    rw [hst] at sky
    show wpAny (model X.prog X.w) X.A (noteFrame (.ref a) X.env) _ _ _
    refine Sky.land Zc.steady frs_ hf sky fun h3 fl3 up3 => ?_
    have J3 : Inv X pins σ' H' { s' with heap := h3 } := J.landed nb fl3.1 (up.trans up3) os ag
    obtain ⟨o3, v3, at3, z3, d3⟩ := fl3.there
    have off : ∀ {hh : Heap} {o : Obj} {vs : Array Value}, hh.FunFrames B (X.env :: X.outer) → hh.get? a = some o → o.data = .fields vs → a ∉ frs (X.env :: X.outer) := by
      intro hh o vs ff e dd hm
      obtain ⟨_, o', e', q⟩ := ff.mem hm
      rw [e] at e'
      cases e'
      exact q _ dd
    have offa := off fl3.2.2.1 at3 d3
    have nL : a ≠ X.env.locals := fun q => offa (List.mem_filterMap.mpr ⟨X.env, List.mem_cons_self, by rw [hf, q]⟩)
    have nF : a ∉ X.fs := fun hm => by
      obtain ⟨e, he, q⟩ := List.mem_filterMap.mp hm
      exact offa (List.mem_filterMap.mpr ⟨e, List.mem_cons_of_mem _ he, q⟩)
    -- a is new: nothing of the state without it stands there
    have nI : sI.heap.get? a = none := by
      cases q : sI.heap.get? a with
      | none => rfl
      | some o =>
        have z := nb a o q (by rw [hst]; exact offa)
        rw [Ba] at z
        cases z
    have n0 : a ∉ X.ex → X.s_0.heap.get? a = none := fun nx => by
      cases q : X.s_0.heap.get? a with
      | none => rfl
      | some o =>
        obtain ⟨o', z⟩ := J.base.there a o q nx
        rw [nI] at z
        cases z
    have npin : ∀ p ∈ X.pn ++ pins, p.1 ≠ a := fun p hp q => by
      have z := (J.pin p hp).1
      rw [q, nI] at z
      cases z
    have S3 := J3.suite at3 d3 na nL nF
    refine wpAny_handleBy_cons (codeAny_handlers_test ?_) (fun q => nomatch q)
    have LT : PySem.W.Looks (model X.prog X.w) h3 (typeOf (.ref a)) cls := fun A Q E s k q => wpAny_typeOf_ref (k _ _ at3) (by rw [z3.1]; exact q)
    have LM := PySem.W.exm_one (M := model X.prog X.w) (J3.kIn) LT hexm
    have look : ∀ {Q : Value → Shared → Prop} {E : Value → Shared → Prop}, Q c { s' with heap := h3 } → wpAny (model X.prog X.w) (X.A.mark (some (.ref a))) (eval (.Name x np) X.env) Q E { s' with heap := h3 } := by
      intro Q E q
      rcases hc with ⟨hg, hdb, hm | ⟨hm, hv, hnn⟩⟩
      · exact ld_glob (X := X.suite a ((a, o3) :: (X.pn ++ pins))) S3 hg hm q hdb
      · exact ld_blt (X := X.suite a ((a, o3) :: (X.pn ++ pins))) S3 hg hm hv q hnn hdb
    refine look (LM.here (codeAny_handlers_suite_as (HandSPX.lands_againZ fl3 fun h4 fl4 up4 => ?_)))
    have J4 : Inv X pins σ' H' { s' with heap := h4 } := J.landed nb fl4.1 ((up.trans up3).trans up4) os ag
    obtain ⟨o4, v4, at4, z4, d4⟩ := fl4.there
    refine store_ok (X := X.suite a ((a, o4) :: (X.pn ++ pins))) (v := .ref a) (J4.suite at4 d4 na nL nF) nd hi (.inl kn) rfl (fun s5 S5 => ?_) (.inr kn)
    refine wpAny_mono ((hsu a o4 cls d (X.pn ++ pins) z4 ⟨_, d4⟩).run [] s5 _ H' _ S5 (hts a na)) (fun f s6 hsp => ?_) (fun _ _ z => False.elim z)
    cases f with
    | next =>
      obtain ⟨σ6, H6, S6, q6⟩ := hsp
      obtain ⟨at6, na6, _⟩ := S6.pin (a, o4) (List.mem_append_left _ List.mem_cons_self)
      have T6 := told_at (S6.unsuite ok) at6 z4 d4 na6 (n0 (by rw [hex]; exact fun z => nomatch z)) nL npin
      exact gone_ok T6 nd hi kn fun s7 J7 => ⟨_, _, J7, q6 na6⟩
    | brk => exact hsp.elim fun _ q => q.elim fun _ q => q.2.elim
    | cont => exact hsp.elim fun _ q => q.elim fun _ q => q.2.elim
    | ret u =>
      obtain ⟨_, _, _, _, _, q⟩ := hsp
      exact q.elim
  · cases f with
    | next =>
      obtain ⟨σ', H', J', q⟩ := hsp
      exact wpAny_execs_nil ⟨σ', H', J'.ofTry ok, q⟩
    | ret u =>
      obtain ⟨v, σ', H', J', r, q⟩ := hsp
      exact ⟨v, σ', H', J'.ofTry ok, r, q⟩
    | brk =>
      obtain ⟨σ', H', J', q⟩ := hsp
      exact ⟨σ', H', J'.ofTry ok, q⟩
    | cont =>
      obtain ⟨σ', H', J', q⟩ := hsp
      exact ⟨σ', H', J'.ofTry ok, q⟩
end
end Hk
end S_Wa
section S_Wb
namespace Hk
open PySem PySem.Spec PyProof.Rows L2
/-- what the written part must say of an own error's class at D, whose errors are asked about -/
structure ErrC (K : PySem.W.Frag) (D : Addr) : Prop where
  ga : PySem.W.findIn K (.ref D) "__getattribute__" = some (some (.builtin "BaseException.__getattribute__"))
  gg : PySem.W.findIn K (.ref D) "__getattr__" = some none
  ex : PySem.W.subIn K (.ref D) (.type "BaseException") = some true
  hd : PySem.W.hasDictIn K D = true
  ci : PySem.W.isClsIn K D = true
  ha : PySem.W.findIn K (.ref D) "__class__" = some (some (.builtin "object.__class__"))
  hn : PySem.W.specialIn K (.builtin "object.__class__") "__get__" = some (some (.builtin "getset_descriptor.__get__"))
  ht : PySem.W.takesIn K (.builtin "object.__class__") = some true
  hm : PySem.W.mroIn K D (.type "object") = some true
/-- the error's own dict, if it has one, is told of -/
def DictAt (H : Hp) (d : Option Addr) (fs : List (Str × V)) : Prop := ∃ dd, d = some dd ∧ H dd = some (.xd fs)
/-- isinstance(e, c) of a kept error -/
def rIsK (K : PySem.W.Frag) : List V → Hp → VK → Prop := fun xs H Q => ∃ (a D : Addr) (d : Option Addr) (fs : List (Str × V)) (c : V) (u : Value) (b : Bool), xs = [.ref a, c] ∧ H a = some (ErrAt (.ref D) d a) ∧ DictAt H d fs ∧ ErrC K D ∧ ClsV c u ∧ PySem.W.kitOne K (.ref D) u = some b ∧ Q (.bl b) H
section
variable {X : Cx} {pins : List (Addr × Obj)} {σ : L2.St} {H : Hp} {s : Shared}
theorem at_inst {a D : Addr} {d : Option Addr} {fs : List (Str × V)} (I : Inv X pins σ H s) (ha : H a = some (ErrAt (.ref D) d a)) (hd : DictAt H d fs) :
    ∃ (oe od : Obj) (mA : Str → Option Value), PySem.W.InstAt s.heap a oe D (some od) ∧ (∀ name, PySem.W.lookIn name od = some (mA name)) ∧ ∀ f, RelO (fs.lookup f) (mA f) := by
  obtain ⟨⟨oe, vs, he, hz, hv⟩, _, _⟩ := (show ObjOk X.prog X.w H s.heap a (ErrAt (.ref D) d a) from I.hok a _ ha)
  obtain ⟨dd, rfl, hdd⟩ := hd
  obtain ⟨mA, hns, hr⟩ := (show ObjOk X.prog X.w H s.heap dd (.xd fs) from I.hok dd _ hdd)
  obtain ⟨od, ho, hl⟩ := lookIn_ns hns
  exact ⟨oe, od, mA, ⟨he, hz.1, by unfold PySem.W.notCls; rw [hv] <;> rfl, by rw [hz.2]; exact ho⟩, hl, hr⟩
theorem call_isKept : CallR X (.builtin "isinstance") (rIsK X.K) := by
  intro pins s σ H xs us Q I r h
  obtain ⟨a, D, d, fs, c, u, b, rfl, ha, hd, C, hc, e, q⟩ := h
  cases r with
  | cons rx rr =>
    cases rr with
    | cons rt rr =>
      cases rr
      cases rx
      have ec := hc.eq rt
      subst ec
      obtain ⟨oe, od, mA, J, _, _⟩ := at_inst I ha hd
      exact PySem.W.kia_one (PySem.W.kitx_exc C.ci C.ga C.gg C.ex C.ha C.hn C.ht C.hm) I.kIn J e (fun z => nomatch z) fun tk => ⟨.bl b, H, I.kept (t' := tk) fun _ _ z => z, rfl, q⟩
/-- of either -/
theorem call_isAny : CallR X (.builtin "isinstance") (fun xs H Q => rIsi X.K xs H Q ∨ rIsK X.K xs H Q) := by
  intro pins s σ H xs us Q I r h
  rcases h with h | h
  · exact call_isi _ _ _ _ _ _ _ I r h
  · exact call_isKept _ _ _ _ _ _ _ I r h
/-- e.f, e a kept error -/
def tKeptF (K : PySem.W.Frag) (f : Str) (te : TE) : TE := fun σ H Q => te σ H fun x H1 => ∃ (a D : Addr) (d : Option Addr) (fs : List (Str × V)) (v : V), x = .ref a ∧ H1 a = some (ErrAt (.ref D) d a) ∧ DictAt H1 d fs ∧ ErrC K D ∧ PySem.W.findIn K (.ref D) f = some none ∧ fs.lookup f = some v ∧ Q v H1
theorem pe_keptF {e : Expr} {te : TE} {pos : Pos} {f : Str} (he : PE X e te) (hb : attributeBase e f X.env (eval e X.env) = eval e X.env := by rfl) : PE X (.Attribute e f pos) (tKeptF X.K f te) := by
  refine ⟨fun pins s σ H Q I h => attr_of hb (thn (he.run pins s σ H _ I h) fun u s1 hh => ?_)⟩
  obtain ⟨x, H1, I1, rx, a, D, d, fs, v, rfl, ha, hd, C, hno, hl, q⟩ := hh
  obtain rfl : u = Value.ref a := rx
  obtain ⟨oe, od, mA, J, look, rel⟩ := at_inst I1 ha hd
  obtain ⟨w, hw, rw_⟩ := RelO.some_of (v := v) (o := mA f) (by rw [← hl]; exact rel f)
  exact HandSPX.exc_get I1.kIn J C.ga C.gg C.ex (PySem.W.findObj_own C.hd hno rfl (by rw [look, hw])) (handed_of rw_) ⟨v, H1, I1.tok _, rw_, q⟩
end
end Hk
end S_Wb
section S_Wc
set_option maxHeartbeats 2000000
namespace PySem
namespace PartX
open PySem.W PySem.Calls PyProof.Rows PySem.HandSPX
/-! ### the text of __init__ -/
def iA (p1 p2 : Pos) : Arguments := { posonlyargs := [], args := [{ arg := "self", annotation := none, pos := p1 }, { arg := "part", annotation := none, pos := p2 }], vararg := none, kwonlyargs := [], kw_defaults := [], kwarg := none, defaults := [] }
def iB (q1 q2 q3 q4 : Pos) : List Stmt := [.Assign [.Attribute (.Name "self" q1) "part" q2] (.Name "part" q3) q4]
def iS : Scope := { kind := .function, names := [(PySem.Str.ofString "self", .local), (PySem.Str.ofString "part", .local)], isGenerator := false, isCoroutine := false, more := [] }
/-- what the written part says of Low, at C, and of its __init__, at fI -/
structure PartTxt (K : Frag) (mg : Str → Option Value) (nmE qI : Str) (C fI : Addr) : Prop where
  gC : mg nmE = some (.ref C)
  cls : ∃ nm q N bs bm sn sub ab col dd k0 k1 k2 k3 k5, K.lookup C = some (excClassObj nm q C N bs bm true sn sub ab col dd k0 k1 k2 k3 k5 "ValueError.__new__") ∧ refsVE bm = true
  sa : findIn K (.ref C) "__setattr__" = some (some (.builtin "object.__setattr__"))
  ga : findIn K (.ref C) "__getattribute__" = some (some (.builtin "BaseException.__getattribute__"))
  gg : findIn K (.ref C) "__getattr__" = some none
  noN : findIn K (.ref C) "part" = some none
  iC : findIn K (.ref C) "__init__" = some (some (.ref fI))
  tC : typeIn K (.ref fI) = some (.type "function")
  kC : keepIn K (.ref C) = true
  exC : subIn K (.ref C) (.type "BaseException") = some true
  tyC : typeIn K (.ref C) = some (.type "type")
  hdC : hasDictIn K C = true
  fn : ∃ (oc : Value) (od : Option Addr) (doc pm : Value) (an : Option Addr) (cdv ct : Value) (osl : Array (Option Value)) (p1 p2 q1 q2 q3 q4 : Pos),
    K.lookup fI = some ⟨oc, od, .func (fnOf "__init__" qI (iA p1 p2) (iB q1 q2 q3 q4) iS .none .none doc pm an cdv ct), osl⟩ ∧ codeIn K cdv qI = true
theorem one_size (v : Value) : [v].length ≤ sizeLine := by
  rw [sizeLine_eq]
  exact (by decide : 1 ≤ 16777216)
theorem kept_but {K : Frag} {h h' : Heap} {x : Addr} (X : K.In h) (hx : K.lookup x = none) (k : ∀ b o, b ≠ x → h.get? b = some o → h'.get? b = some o) : K.In h' := fun a o e =>
  k a o (fun z => by rw [z, hx] at e; cases e) (X a o e)
theorem ldC {M : Model} {s : Shared} {name : Str} {scope : Scope} {L a : Addr} {cd : Value} {m : Str → Option Value} {x : Str} {pos : Pos} {v : Value} {Q : Value → Shared → Prop} {A : Around} {E : Value → Shared → Prop} (hn : s.heap.Ns L m) (hv : m x = some v) (h : Q v s)
    (hk : scope.kind = .function := by rfl) (hl : (envOfC name scope L a cd).kindOf x = some .local := by rfl) (hd : (x == ("__debug__" : Str)) = false := by decide) :
    wpAny M A (eval (.Name x pos) (envOfC name scope L a cd)) Q E s := wpAny_Name (wpAny_loadName_local hk hl hn hv h) hd
/-- what __init__ leaves of a fresh exception at x -/
structure InitEnd (h h' : Heap) (x C dx t1 : Addr) (v : Value) : Prop where
  keep : ∀ b o, b ≠ x → h.get? b = some o → h'.get? b = some o
  obj : h'.get? x = some { cls := .ref C, dict := some dx, data := .fields #[.ref t1, .none, .none, .none, .bool false, .none] }
  dbig : h.objs.size ≤ dx
  dne : dx ≠ x
  ns : h'.Ns1 dx (fun y => if y = "part" then some v else none)
/-- a made Low -/
structure OwnMade (h h' : Heap) (e C d : Addr) (v : Value) : Prop where
  keep : ∀ b o, h.get? b = some o → h'.get? b = some o
  new : h.objs.size ≤ e
  obj : ∃ oe vs, h'.get? e = some oe ∧ oe.cls = .ref C ∧ oe.dict = some d ∧ oe.data = .fields vs ∧ vs[1]? = some .none
  dbig : h.objs.size ≤ d
  dne : d ≠ e
  ns : h'.Ns1 d (fun y => if y = "part" then some v else none)
section
variable {prog : Program} {w : World} {A : Around} {E : Value → Shared → Prop} {R : Result → Shared → Prop} {s : Shared} {K : Frag} {mg : Str → Option Value} {nmE qI : Str} {C fI : Addr}
theorem part_init (T : PartTxt K mg nmE qI C fI) {x t0 : Addr} {v : Value} (X : K.In s.heap) (hlim : s.heap.NoLimit) (hx : s.heap.get? x = some (excO C t0)) (hnx : K.lookup x = none) (hroom : A.depth < recursionLimit)
    (hq : ∀ h' tk dx, InitEnd s.heap h' x C dx t0 v → R (.ok (.ret .none)) { s with heap := h', toks := tk }) :
    codeAny (model prog w) A (.call (.ref fI) ⟨[.ref x, v], []⟩) R s := by
  obtain ⟨oc, od, doc, pm, an, cdv, ct, osl, p1, p2, q1, q2, q3, q4, ho, hcd⟩ := T.fn
  obtain ⟨nm, q, N, bs, bm, sn, sub, ab, col, dd, k0, k1, k2, k3, k5, hC, hbm⟩ := T.cls
  have hcl : clsIn K C = some { name := nm, bases := bs, mro := .ref C :: bm, ns := N, qualname := q, hasDict := true, slotNames := sn, subclasses := sub, abstract := ab, collection := col, hasDel := false } := by unfold clsIn; rw [hC] <;> rfl
  refine Att.call_fn (binds := [("self", .ref x), ("part", v)]) X hlim ho hcd hroom (BindsTo.of_eq (by first | rfl | with_unfolding_all rfl)) (by first | rfl | decide | with_unfolding_all rfl) (fun s₁ IC => ?_) rfl rfl rfl
  obtain ⟨h₁, tk₁, rfl⟩ := IC.toInCall.same
  have k : ∀ b o, s.heap.get? b = some o → h₁.get? b = some o := IC.toInCall.keep
  have hn := IC.toInCall.ns
  have hxL : s.heap.objs.size ≠ x := Nat.ne_of_gt (Heap.lt_size hx)
  have X₁ : K.In h₁ := X.keeps k
  have hx₁ := k _ _ hx
  -- self.by = by
  show wpAny _ _ (execs _ _) _ _ _
  refine wpAny_execs_cons (plainObj_wpAny_Assign_Attribute ?_)
  refine ldC (v := v) hn (by first | rfl | with_unfolding_all rfl | kernel_rfl) (ldC (v := .ref x) hn (by first | rfl | with_unfolding_all rfl | kernel_rfl) ?_)
  refine set_plain X₁ (ox := excO C t0) (od := none) ⟨hx₁, rfl, rfl, trivial⟩ T.sa ?_
  refine exc_osa X₁ hx₁ hcl (show refsVE (.ref C :: bm) = true from hbm) rfl T.noN (fun h₃ tk₃ dx k₃ dn dne hx₃ hn₃ => ?_)
  show wpAny _ _ (execs _ _) _ _ _
  have z : s.heap.objs.size < h₁.objs.size := hn.lt
  exact wpAny_execs_nil (hq h₃ tk₃ dx ⟨fun b o hb e => k₃ b o hb (k b o e), hx₃, Nat.le_of_lt (Nat.lt_of_lt_of_le z dn), dne, hn₃⟩)
theorem part_made (T : PartTxt K mg nmE qI C fI) {v : Value} (X : K.In s.heap) (hlim : s.heap.NoLimit) (hroom : A.depth + 1 < recursionLimit)
    (hq : ∀ h' tk e d, OwnMade s.heap h' e C d v → R (.ok (.ret (.ref e))) { s with heap := h', toks := tk }) :
    codeAny (model prog w) A (.call (.ref C) ⟨[v], []⟩) R s := by
  obtain ⟨nm, q, N, bs, bm, sn, sub, ab, col, dd, k0, k1, k2, k3, k5, hC, hbm⟩ := T.cls
  obtain ⟨hp, g, dr, tk, os⟩ := s
  have k : ∀ b o, hp.get? b = some o → ((hp.push (kdv_tup [v])).push (excO C hp.objs.size)).get? b = some o := fun b o e => Heap.get?_push_of_some _ (Heap.get?_push_of_some _ e)
  have hget : ((hp.push (kdv_tup [v])).push (excO C hp.objs.size)).get? (hp.objs.size + 1) = some (excO C hp.objs.size) := by heap_get
  have hnx : K.lookup (hp.objs.size + 1) = none := by
    cases e : K.lookup (hp.objs.size + 1) with
    | none => rfl
    | some o =>
      have z : hp.get? (hp.objs.size + 1) = some o := X _ _ e
      exact absurd (Nat.lt_of_succ_lt (Heap.lt_size z)) (Nat.lt_irrefl _)
  refine call_own F.excBase_ValueError (fun X => refsVE_contains X bm hbm) (X _ _ hC) (looks_findIn X T.iC) (fun self => bind_fn X self T.tC) (one_size v) ?_
  refine part_init (s := ⟨(hp.push (kdv_tup [v])).push (excO C hp.objs.size), g, dr, tk, os⟩) T (X.keeps k) (hlim.keeps k) hget hnx ?_ fun h' tk' dx ⟨k', hx, dn, dne, hns⟩ => ?_
  · show A.depth + 1 < recursionLimit
    exact hroom
  · have old : ∀ b o, hp.get? b = some o → h'.get? b = some o := fun b o e => k' b o (Nat.ne_of_lt (Nat.lt_succ_of_lt (Heap.lt_size e))) (k b o e)
    have z : hp.objs.size + 1 + 1 ≤ dx := by
      first
        | (simpa only [Heap.size_push] using dn)
        | exact dn
        | (have q := dn; rw [Heap.size_push, Heap.size_push] at q; exact q)
    exact ⟨rfl, hq h' tk' (hp.objs.size + 1) dx ⟨old, Nat.le_succ _, ⟨_, _, hx, rfl, rfl, rfl, rfl⟩, Nat.le_trans (Nat.le_trans (Nat.le_succ _) (Nat.le_succ _)) z, dne, hns⟩⟩
end
end PartX
end PySem
namespace L2
open PySem PySem.Spec PyProof.Rows
theorem relO_part {v : V} {v' : Value} (r : RelV v v') (f : Str) : RelO (List.lookup f [(("part" : Str), v)]) (if f = "part" then some v' else none) := by
  by_cases hw : f = "part"
  · subst hw
    rw [if_pos rfl]
    have q : List.lookup ("part" : Str) [(("part" : Str), v)] = some v := by simp [List.lookup]
    rw [q]
    exact r
  · rw [if_neg hw]
    have qw : (f == ("part" : Str)) = false := by simpa using hw
    have q2 : List.lookup f [(("part" : Str), v)] = none := by simp [List.lookup, qw]
    rw [q2]
    trivial
section
variable {X : Cx} {nmE qI : Str} {C fI : Addr}
/-- Low(e) -/
def tMkPart (C : Addr) (ta : TA) : St → Hp → XK → Prop := fun σ H Q => ta σ H fun vs H1 => ∃ v, vs = [v] ∧ ∀ d, H1 d = none → Q (.ref C) (some d) (upd H1 d (.xd [(("part" : Str), v)]))
theorem pmk_part {a : Expr} {ta : TA} {p pos : Pos} {k : Nat} (T : PySem.PartX.PartTxt X.K X.mg nmE qI C fI) (hr : Room k X.A) (ha : PA X [a] ta) (hg : Gl X nmE) (hdb : (nmE == ("__debug__" : Str)) = false := by decide)
    (he : starEach (a :: []) X.env = (false, eval a X.env) :: starEach [] X.env := by rfl) (hpl : (backTo pos (starEach [] X.env)).any (·.1) = false := by rfl) :
    PMk X (.Call (.Name nmE p) [a] [] pos) (tMkPart C ta) := by
  intro pins s σ H Q I h
  refine wpAny_Call_Name_kw (ld_glob I hg T.gC ?_ hdb)
  refine PySem.W.callWith_K (h₀ := X.base) I.ok.mod.kin T.kC (thn (ha.run pos pins s σ H _ I h) fun us s1 hh => ?_) he hpl
  obtain ⟨vs, H1, I1, r1, v, ev, q1⟩ := hh
  subst ev
  refine ⟨I1.kIn, ?_⟩
  cases r1 with
  | cons rv rn =>
    rename_i v' us'
    cases rn
    show wpAny _ _ (call (.ref C) [v']) _ _ _
    have hlim := I1.nolimit
    obtain ⟨hp, g, dr, tk, os⟩ := s1
    refine wpAny_call (PySem.PartX.part_made T I1.kIn hlim (by have := hr.dp; omega) fun h' tk' e d M => ?_)
    show MkP X pins σ Q (.ref e) ⟨h', g, dr, tk', os⟩
    obtain ⟨oe, fv, hoe, hc, hd, hdat, h1⟩ := M.obj
    have hns := M.ns
    obtain ⟨G', g1, g2⟩ := restrict h' fun b => decide (b ≠ e)
    have gk : ∀ b, b ≠ e → G'.get? b = h'.get? b := fun b hb => g1 b (decide_eq_true hb)
    have ge : G'.get? e = none := g2 e (by simp)
    have old : ∀ b o, hp.get? b = some o → G'.get? b = some o := fun b o q => (gk b (Nat.ne_of_lt (Nat.lt_of_lt_of_le (Heap.lt_size q) M.new))).trans (M.keep b o q)
    have ob : ObjOk X.prog X.w (upd H1 d (.xd [(("part" : Str), v)])) G' d (.xd [(("part" : Str), v)]) :=
      ⟨_, hns.at (fun o q => (gk d M.dne).trans q), fun f => relO_part rv f⟩
    have J : Inv X pins σ (upd H1 d (.xd [(("part" : Str), v)])) ⟨G', g, dr, tk', os⟩ := I1.laid (t' := tk') old M.dbig ob
    refine ⟨e, oe, fv, ⟨G', g, dr, tk', os⟩, _, .ref C, some d, rfl, J, fun b o q => ?_, ge, hoe, ⟨hc, hd⟩, hdat, h1, ?_, rfl, I1.bare, raises_own T.exC T.tyC, q1 d (I1.hok.fresh M.dbig)⟩
    · by_cases hb : b = e
      · have q' : G'.get? b = some o := q
        rw [hb, ge] at q'; cases q'
      · exact (gk b hb).symm.trans q
    · rw [upd_ne (Ne.symm M.dne)]
      exact I1.hok.fresh M.new
/-- raise Low(e) -/
def tRaisePart (C : Addr) (W : WX) (ta : TA) : TS := fun _ σ H => tMkPart C ta σ H fun cls d H' => W cls d σ H'
theorem ps_raisePart {a : Expr} {ta : TA} {W : WX} {p pos pos2 : Pos} {k : Nat} (hc : X.calm = true) (T : PySem.PartX.PartTxt X.K X.mg nmE qI C fI) (hr : Room k X.A) (tk : Takes X W) (ha : PA X [a] ta) (hg : Gl X nmE) (hdb : (nmE == ("__debug__" : Str)) = false := by decide)
    (he : starEach (a :: []) X.env = (false, eval a X.env) :: starEach [] X.env := by rfl) (hpl : (backTo pos (starEach [] X.env)).any (·.1) = false := by rfl) :
    PS X (.Raise (some (.Call (.Name nmE p) [a] [] pos)) none pos2) (tRaisePart C W ta) := ps_raise hc tk (pmk_part T hr ha hg hdb he hpl)

end
end L2
end S_Wc
section S_Wd
namespace Hk
open PySem PySem.Spec PyProof.Rows L2 LamX
theorem takes_len {X : Cx} {W : WX} (tk : L2.Takes X W) : L2.Takes X (fun cls d σ H => σ.length = X.N.length → W cls d σ H) := fun u s' ⟨a, B, sI, pins, σ, H, cls, d, e, I, nb, up, sky, na, os, ag, w⟩ =>
  tk u s' ⟨a, B, sI, pins, σ, H, cls, d, e, I, nb, up, sky, na, os, ag, w I.len⟩
abbrev nAsk : List Str := ["ask", "caught", "error"]
/-- caught = None / try: ask() / except E as error: caught = error / return ret -/
def THeard (K : PySem.W.Frag) (CS : Addr) (tr : TE) : (XK → Hp → VK → Prop) → Hp → VK → Prop := fun tl H Q => ∀ f : Addr,
  tl (fun cls d H' => PySem.W.exmOne K cls (.ref CS) = some true ∧ ∀ a, H' a = none → ∀ σ' : L2.St, σ'.length = 3 → σ'[1]? = some (some (.ref a)) → tr σ' (upd H' a (ErrAt cls d a)) Q) H
    fun _ H' => tr [some (.ref f), some .non, none] H' Q
abbrev cxA (X : Cx) (x : Str) (sg : Scope) (g : Addr) (cdg : Value) (A : Around) (s : Shared) (H : Hp) : Cx := (cxOf C8.CX0 X.prog X.w X.K X.mg X.base nAsk x sg g cdg A X.stack s H C8.E0).nox
theorem heard_gives {X : Cx} {x e q : Str} {sg : Scope} {g CS : Addr} {cdg : Value} {j : Nat} {rt : Expr} {tr : TE} {p1 p2 p3 p4 p5 p6 p7 p8 p9 r1 r2 r3 r4 : Pos} (Sg : FnScope nAsk ["ask"] sg) (k1 : sg.names.lookup ("caught" : Str) = some NameKind.local) (k2 : sg.names.lookup ("error" : Str) = some NameKind.local)
    (hge : sg.names.lookup e = some .globalImplicit) (hme : X.mg e = some (.ref CS)) (hde : (e == ("__debug__" : Str)) = false)
    (hrt : ∀ (A : Around) (s : Shared) (H : Hp), PE (cxA X x sg g cdg A s H) rt tr) :
    GivesTo X nAsk x sg g cdg [.Assign [.Name "caught" p1] (.Constant .none j p2) p3, .Try [.Expr (.Call (.Name "ask" r1) [] [] r2) r3] [.ExceptHandler (some (.Name e p4)) (some "error") [.Assign [.Name "caught" p5] (.Name "error" p6) p7] p8] [] [] p9, .Return (some rt) r4] "ask" q (THeard X.K CS tr) := by
  intro f c' s H Q tl act hc h
  have gE : Gl (cxA X x sg g cdg X.A s H) e := hge
  have l1 : ∀ {Y : Cx}, Y.env.scope = sg → (Y.fn "caught" = true ∨ Y.env.scope.names.lookup ("caught" : Str) = some NameKind.local) := fun e => .inr (by rw [e]; exact k1)
  refine ⟨_, pss_cons (ps_set (X := cxA X x sg g cdg X.A s H) (i := 1) Sg.nd rfl (Or.inl k1) pe_non rfl (l1 rfl)) (pss_cons (ps_keep (X := cxA X x sg g cdg X.A s H) (i := 2) (c := .ref CS) (ts := fun _ _ _ => tAsg (tVar 2) (gName 1))
      (tb := fun W D σ H => ∃ Ech : XK, (∀ cls d σ' H', Ech cls d H' → σ'.length = 3 → W cls d σ' H') ∧ σ[0]? = some (some (.ref f)) ∧ H c' = some (CodeO c' q) ∧ tl Ech H (fun _ H' => D.nx σ H'))
      rfl rfl rfl Sg.nd rfl k2 ⟨gE, hde, Or.inl hme⟩ (fun W pn xe tk _ => ?_) (fun a oe cls d pn _ _ => pss_one (ps_set (i := 1) Sg.nd rfl (Or.inl k1) (pe_var (i := 2) rfl (Or.inl k2)) rfl (l1 rfl)))) (pss_one (ps_ret (hrt X.A s H)))), ?_⟩
  · refine ⟨fun pins s' σ H' D I h' => ?_⟩
    obtain ⟨Ech, hW, h1, h2, h3⟩ := h'
    have hp := act (fun cls d σ H => σ.length = nAsk.length → W cls d σ H) pn xe Ech r1 r2 (takes_len tk) hW
    exact (pss_one (ps_expr (pos := r3) hp)).run pins s' σ H' D I ⟨h1, h2, h3⟩
  · have h' : tl (fun cls d H' => PySem.W.exmOne X.K cls (.ref CS) = some true ∧ ∀ a, H' a = none → ∀ σ' : L2.St, σ'.length = 3 → σ'[1]? = some (some (.ref a)) → tr σ' (upd H' a (ErrAt cls d a)) Q) H (fun _ H' => tr [some (V.ref f), some .non, none] H' Q) := h f
    refine ⟨fun cls d H' => PySem.W.exmOne X.K cls (.ref CS) = some true ∧ ∀ a, H' a = none → ∀ σ' : L2.St, σ'.length = 3 → σ'[1]? = some (some (.ref a)) → tr σ' (upd H' a (ErrAt cls d a)) Q, ?_, rfl, hc, h'⟩
    intro cls d σ' H' hh hl
    obtain ⟨he, hk⟩ := hh
    refine ⟨he, fun a na => ?_⟩
    exact ⟨.ref a, by rw [List.getElem?_set_self (by omega)] <;> rfl, fun na' => hk a na' _ (by simp [hl]) (by rw [List.getElem?_set_ne (by decide), List.getElem?_set_self (by simp [hl])] <;> rfl)⟩
end Hk
end S_Wd
section S_We
namespace Hk
open PySem PySem.Spec PyProof.Rows L2 LamX Tl
/-- the law's own call where no repr is under way, its code object's table tracked -/
theorem law_gT {P : Program} {w : World} {K : PySem.W.Frag} {mg mb : Str → Option Value} {k : Nat} {fa a c T : Addr} {fd : FuncData} {x : Str} {sp : Sp} {s₁ : Shared} {vs : List Value} {ns : List Int}
    (kin : K.In s₁.heap) (hns : s₁.heap.Ns mainGlobals mg) (hb : s₁.heap.Ns builtinsNs mb) (hbb : ∀ x : Str, x ≠ "__name__" → mb x = bootBuiltins x) (hlim : s₁.heap.NoLimit) (hg : s₁.gens = #[])
    (hT : s₁.heap.get? T = some { cls := .none, data := .fields #[] }) (nT : K.lookup T = none) (hC : PySem.W.CodeHd s₁.heap c T)
    (hbm : ∃ (bm : Addr) (ob : Obj), mg "__builtins__" = some (.ref bm) ∧ bm ≠ builtinsNs ∧ s₁.heap.get? bm = some ob ∧ ob.cls = .type "module" ∧ ob.dict = some builtinsNs ∧ ob.data = .plain)
    (ha : s₁.heap.get? a = some { cls := .type "list", data := .seq vs.toArray }) (hi : IntsAre vs ns) (hl : ns.length ≤ sizeLine) (hr : Room k callerA)
    (F : ∀ base : Heap, K.In base → base.Ns mainGlobals mg → TabB base mg c T → FnG P w K mg base k fa fd [x] sp) (hbind : ∀ (s : Shared) (u : Value), BindsTo s fd ⟨[u], []⟩ [(x, u)])
    (hsp : ∀ H : Hp, H T = some (.tbl #[]) → SqL K H a (ns.map V.int) → sp [.ref a] H (fun v _ => v = .bl true) fun _ _ _ => False) :
    codeAny (model P w) callerA (.call (.ref fa) ⟨[.ref a], []⟩) (fun r s' => r = .ok (.ret (.bool true)) ∧ OldK s₁.heap s'.heap ∧ s'.os = s₁.os ∧ AllBare s'.gens) s₁ := by
  have rv := vals_ints hi
  have aT : a ≠ T := fun z => by
    rw [z, hT] at ha
    have z' : Data.fields #[] = Data.seq vs.toArray _ := congrArg Obj.data (Option.some.inj ha)
    cases z'
  have run : ∀ H : Hp, H T = some (.tbl #[]) → SqL K H a (ns.map V.int) → HOk P w H s₁.heap → (∀ b u, H b = some u → b = T ∨ (b = a ∧ K.lookup a = none ∧ ∃ o xs, u = .frz o (.lst xs))) →
      codeAny (model P w) callerA (.call (.ref fa) ⟨[.ref a], []⟩) (fun r s' => r = .ok (.ret (.bool true)) ∧ OldK s₁.heap s'.heap ∧ s'.os = s₁.os ∧ AllBare s'.gens) s₁ := by
    intro H hHT hS hok hA
    have keepB : ∀ {b : Addr} {o : Obj}, s₁.heap.get? b = some o → (∀ vs n, o.data ≠ .seq vs n) → o.data ≠ .fields #[] → (hidT s₁.heap H).get? b = some o := fun {b o} e h1 h2 => by
      refine hidT_get e ?_
      cases q : H b with
      | none => rfl
      | some u =>
        rcases hA b u q with e1 | ⟨e1, _⟩
        · rw [e1, hT] at e
          cases e
          exact absurd rfl h2
        · rw [e1, ha] at e
          cases e
          exact absurd rfl (h1 _ _)
    have ns_of : ∀ {b : Addr} {m : Str → Option Value}, s₁.heap.Ns b m → (hidT s₁.heap H).Ns b m := fun {b m} hm => by
      obtain ⟨o, es, ep, e, d, r⟩ := hm
      exact ⟨o, es, ep, keepB e (fun vs n z => by rw [d] at z; cases z) (fun z => by rw [d] at z; cases z), d, r⟩
    have kb : K.In (hidT s₁.heap H) := fun b o e => hidT_get (kin b o e) (by
      cases q : H b with
      | none => rfl
      | some u =>
        rcases hA b u q with e1 | ⟨e1, e2, _⟩
        · rw [e1, nT] at e
          cases e
        · rw [e1, e2] at e
          cases e)
    have hM : Mod K mg (hidT s₁.heap H) := ⟨kb, ns_of hns, ⟨mb, ns_of hb, hbb⟩, hlim.elim fun mc h => ⟨mc, ns_of h.1, h.2⟩⟩
    have e0 : Env0 P w K mg (hidT s₁.heap H) callerA [] s₁ H := ⟨rfl, hM, fun _ _ e => of_hidT e, by rw [hidT_size] <;> exact Nat.le_refl _, trivial, fun _ hb => (nomatch hb), hok, .of_eq hg⟩
    have TB : TabB (hidT s₁.heap H) mg c T := by
      refine ⟨?_, ?_, fun z => ?_⟩
      · obtain ⟨o, us, file, tf, flags, tg, inF, text, tt, e1, r1, r2, r3, r4⟩ := hC
        exact ⟨o, us, file, tf, flags, tg, inF, text, tt, keepB e1 (fun vs n z => by rw [r2] at z; cases z) (fun z => by rw [r2] at z; cases z; simp at r3), r1, r2, r3, r4⟩
      · obtain ⟨bm, ob, b1, b2, b3, b4, b5, b6⟩ := hbm
        refine ⟨bm, ob, b1, b2, fun q => ?_, fun q => ?_, keepB b3 (fun vs n z => by rw [b6] at z; cases z) (fun z => by rw [b6] at z; cases z), b4, b5, b6⟩
        · obtain ⟨o, es, ep, e, hd, _⟩ := hns
          rw [q, e] at b3
          cases b3
          rw [hd] at b6
          cases b6
        · rw [q, hT] at b3
          cases b3
          cases b6
      · obtain ⟨o, es, ep, e, hd, _⟩ := hns
        rw [z, hT] at e
        cases e
        cases hd
    refine codeAny_mono ((F _ kb (ns_of hns) TB).go rfl hr e0 (us := [.ref a]) (hbind s₁ (.ref a)) (vs := [.ref a]) (.cons rfl .nil) (hsp H hHT hS)) fun r s' h => ?_
    match r, h with
    | .ok (.ret u), h =>
      obtain ⟨v, H', os, bare, un, hok', r', q⟩ := h
      cases (show v = .bl true from q)
      cases (show u = Value.bool true from r')
      obtain ⟨more, zT⟩ := un.tbls T #[] hHT
      have grown : s'.heap.get? T = some { cls := .none, data := .fields more } := by
        have q := hok' T _ zT
        rw [Array.empty_append] at q
        exact q
      have others : ∀ b o, b ≠ T → s₁.heap.get? b = some o → s'.heap.get? b = some o := fun b o nb e => by
        cases q : H b with
        | none => exact un.keep b o e q (fun y => (nomatch y)) (fun y => (nomatch y))
        | some u =>
          rcases hA b u q with z | ⟨_, _, ob, xs, rfl⟩
          · exact absurd z nb
          · obtain ⟨e1, _⟩ := hok b _ q
            obtain ⟨e2, _⟩ := hok' b _ (un.frzs b ob _ q)
            rw [e] at e1
            cases e1
            exact e2
      refine ⟨rfl, ⟨fun b o e => ?_, fun b o e => ?_⟩, os, bare⟩
      · by_cases hb : b = T
        · subst hb
          rw [hT] at e
          cases e
          exact .inr (.inl ⟨(hC.tab hT).isCodeTable, rfl, #[], more, rfl, by rw [Array.empty_append]; exact grown⟩)
        · exact .inl (others b o hb e)
      · by_cases hb : b = T
        · subst hb
          exact ⟨_, grown⟩
        · exact ⟨o, others b o hb e⟩
    | .error e, h => exact False.elim h
    | .ok .next, h => exact False.elim h
    | .ok .brk, h => exact False.elim h
    | .ok .cont, h => exact False.elim h
  have tT : (if T = T then some (HO.tbl #[]) else none) = some (HO.tbl #[]) := if_pos rfl
  cases hk : K.lookup a with
  | some o =>
    have e := kin a o hk
    rw [ha] at e
    cases e
    refine run (fun b => if b = T then some (.tbl #[]) else none) tT (.inr ⟨_, vs.toArray, _, hk, rfl, rfl, rfl, ?_, by simpa using rv⟩) (fun b u z => ?_) (fun b u z => ?_)
    · rw [List.size_toArray, hi.length]
      exact hl
    · dsimp only at z
      by_cases hb : b = T
      · rw [if_pos hb] at z
        cases z
        rw [hb]
        exact hT
      · rw [if_neg hb] at z
        cases z
    · skip
      by_cases hb : b = T
      · exact .inl hb
      · rw [if_neg hb] at z
        cases z
  | none =>
    refine run (fun b => if b = T then some (.tbl #[]) else if b = a then some (.frz { cls := .type "list", data := .seq vs.toArray } (.lst (ns.map V.int))) else none) (if_pos rfl) (.inl (.inr ⟨_, by dsimp only; rw [if_neg aT, if_pos rfl]⟩)) (fun b u z => ?_) fun b u z => ?_
    · dsimp only at z
      by_cases hb : b = T
      · rw [if_pos hb] at z
        cases z
        rw [hb]
        exact hT
      · rw [if_neg hb] at z
        by_cases hb2 : b = a
        · rw [if_pos hb2] at z
          cases z
          subst hb2
          exact ⟨ha, by rw [List.length_map]; exact hl, vs, _, rv, ha⟩
        · rw [if_neg hb2] at z
          cases z
    · skip
      by_cases hb : b = T
      · exact .inl hb
      · rw [if_neg hb] at z
        by_cases hb2 : b = a
        · rw [if_pos hb2] at z
          cases z
          exact .inr ⟨hb2, hk, _, _, rfl⟩
        · rw [if_neg hb2] at z
          cases z
theorem walk_gT {l : PySem.W.OpenLaw} {n k : Nat} {q : Program} {loose : List Str} {XP : (Str → Option Value) → Heap → Prop} {YP : World → Heap → Prop} {d : DefRec} {K : Params → PySem.W.Frag} {x : Str}
    (hn : l.most = some n) (hn2 : n ≤ sizeLine) (hdf : d.params.defaults = []) (hr : Room k callerA) (hrec : ((recsOf q).any fun e => e.name == d.name) = true) (hY : ∀ (w : World) (h : Heap), YP w h → (K w.params).In h)
    (F : ∀ (w : World) (mg : Str → Option Value) (fa : Addr) (h : Heap), (K w.params).In h → h.Ns mainGlobals mg → mg d.name = some (.ref fa) →
      ∃ (fd : FuncData) (T c : Addr) (o : Obj) (sp : Sp) (e : Value) (dd : Option Addr) (vs : Array Value) (sl : Array (Option Value)), (K w.params).lookup fa = some o ∧ o.data = .func fd ∧ fd.code = .ref c ∧ (K w.params).lookup c = some ⟨e, dd, .fields vs, sl⟩ ∧ vs[11]? = some (.ref T) ∧ (K w.params).lookup T = none ∧ (∀ (s : Shared) (u : Value), BindsTo s fd ⟨[u], []⟩ [(x, u)]) ∧
        (∀ (H : Hp) (a : Addr) (ns : List Int), ns.length ≤ n → H T = some (.tbl #[]) → SqL (K w.params) H a (ns.map V.int) → sp [.ref a] H (fun v _ => v = .bl true) fun _ _ _ => False) ∧
        ∀ base : Heap, (K w.params).In base → base.Ns mainGlobals mg → TabB base mg c T → FnG l.prog w (K w.params) mg base k fa fd [x] sp) :
    PySem.W.WalkO q loose XP YP l.row.toRowW d [] (fun f vs => PySem.call f vs) := by
  refine Att.attach_call hn hdf fun w s₀ s₁ mg mb fa o pm cd doc a vs ns G Y ho hd hcd hmg hobj hints hlen hg => ?_
  have kin := hY w _ Y
  obtain ⟨fd, T, c, o1, sp, e, dd, us, sl, k1, k2, k3, k4, k5, nT, h1, hs, h2⟩ := F w mg fa _ kin G.T.g hmg
  obtain ⟨dL, hm, hn1⟩ := List.any_eq_true.mp hrec
  have hn2' : dL.name = d.name := beq_iff_eq.mp hn1
  obtain ⟨a', o', fd', c', P', g1, g2, g3, g4, g5, g6⟩ := G.T.tab dL hm
  rw [hn2', hmg] at g1
  cases g1
  have q1 := kin _ _ k1
  rw [q1] at g2
  cases g2
  rw [k2] at g3
  cases g3
  rw [k3] at g4
  cases g4
  have hC := PySem.W.CodeHd.of g5 g6
  obtain ⟨⟨oc, vc, e1, _, e3, e4⟩, hP⟩ := g6
  have q2 := kin _ _ k4
  rw [q2] at e1
  cases e1
  cases e3
  rw [k5] at e4
  cases e4
  exact law_gT kin G.T.g G.T.b G.T.builtins G.T.nolimit hg hP nT hC G.T.bmain hobj hints (Nat.le_trans hlen hn2) hr h2 h1 fun H hHT hS => hs H a ns hlen hHT hS
end Hk
end S_We
section S_Wf
namespace Hk
open PySem PySem.Spec PyProof.Rows L2
theorem args_minD (a v : Value) : argsOk "min" ⟨[a], [(Str.ofString "default", v)]⟩ := by unfold argsOk; kernel_rfl
section
variable {prog : Program} {w : World} {A : Around} {E : Value → Shared → Prop} {s : Shared}
/-- min of an empty list, with what is told for none -/
theorem min_none {l : Addr} {d : Value} {Q : Value → Shared → Prop} (hh : A.handled = none) (hl : s.heap.IsList l #[]) (k : ∀ h' tk, (∀ b o, s.heap.get? b = some o → h'.get? b = some o) → Q d { s with heap := h', toks := tk }) :
    wpAny (model prog w) A (call (.builtin "min") [.ref l] [(Str.ofString "default", d)]) Q E s := by
  refine PyProof.Rows.kmk_tree PySem.F.kind_min PySem.F.plain_min PySem.F.entry_min (args_minD _ _) ?_
  show wpAny _ A.in1 (Builtin.Builtins.bindParams "min" ["key", "default"] 0 ⟨[], [(Str.ofString "default", d)]⟩ >>= _) _ _ s
  refine wpAny_bind (wpAny_of_eq (show Builtin.Builtins.bindParams "min" ["key", "default"] 0 ⟨[], [(Str.ofString "default", d)]⟩ = pure [none, some d] from rfl) (wpAny_bind (wpAny_pure (wpAny_bind (wpAny_pyIter_list hl (wpAny_bind (wpAny_newList ?_ (Nat.zero_le _))))))))
  rw [show (toString "min" ++ toString ".loop" : String) = "min.loop" by decide]
  have ll : l < s.heap.objs.size := by
    obtain ⟨o, ho, _⟩ := hl
    exact Heap.lt_size ho
  refine wpAny_pure ⟨plainId_quiet PySem.F.plain_min_loop _, ?_⟩
  have up : ∀ b o, s.heap.get? b = some o → ((s.heap.push { cls := .type "list_iterator", data := .fields #[.ref l, .int 0 0] }).push (seqObj "list" #[] 0)).get? b = some o := fun b o e => Heap.get?_push_of_some _ (Heap.get?_push_of_some _ e)
  have gI : ((s.heap.push { cls := .type "list_iterator", data := .fields #[.ref l, .int 0 0] }).push (seqObj "list" #[] 0)).get? s.heap.objs.size = some { cls := .type "list_iterator", data := .fields #[.ref l, .int 0 0] } := Heap.get?_push_of_some _ (Heap.get?_push_size _ rfl)
  have gS : ((s.heap.push { cls := .type "list_iterator", data := .fields #[.ref l, .int 0 0] }).push (seqObj "list" #[] 0)).get? (s.heap.push { cls := .type "list_iterator", data := .fields #[.ref l, .int 0 0] }).objs.size = some (seqObj "list" #[] 0) := Heap.get?_push_size _ rfl
  refine codeAny_builtin PySem.F.entry_min_loop ?_
  rw [Around.under_plainId PySem.F.plain_min_loop _]
  refine wpAny_bind (wpAny_seqItems gS rfl (wpAny_bind (wpAny_tryCatch (wpAny_pyNext_list_end (i := 0) (items := #[]) hh ⟨_, gI, rfl, rfl⟩ (let ⟨o, ho, r⟩ := hl; ⟨o, up _ _ ho, r⟩) rfl fun h' ext => ?_))))
  show wpAny _ _ (do rule (toString "min" ++ toString ".default"); (ret d : Sem Fin)) _ _ _
  exact wpAny_bind (wpAny_rule (wpAny_pure (k _ _ fun b o e => ext b o (Nat.ne_of_lt (Heap.lt_size e)) (up b o e))))
end
def rMinN (K : PySem.W.Frag) : List V → List V → Hp → VK → Prop := fun xs zs H Q => ∃ (l : Addr) (z : V), xs = [.ref l] ∧ zs = [z] ∧ SqL K H l [] ∧ Q z H
theorem call_minN {X : Cx} (hc : X.calm = true) : CallRK X (.builtin "min") ["default"] (rMinN X.K) := by
  intro pins s σ H xs zs us ws Q I r r2 h
  obtain ⟨l, z, rfl, rfl, hS, q⟩ := h
  cases r with
  | cons rx rr =>
    cases rr
    cases rx
    cases r2 with
    | cons rz rr =>
      cases rr
      obtain ⟨its, rv, pl, hz⟩ := I.list hS
      have e : its = [] := by cases rv; rfl
      subst e
      exact min_none (I.ok.hd hc) pl.isList fun h' tk kp => ⟨z, H, I.kept (t' := tk) kp, rz, q⟩
end Hk
end S_Wf
section S_Wg
namespace Hk
open PySem PySem.Spec PyProof.Rows L2 Tl
section
open Evl
variable {K : PySem.W.Frag} {σ : L2.St} {H H' B : Hp} {ta tb te : TE} {x y z v : V}
theorem s_retN {te : TE} {D : Ends} {R : V → Hp → Prop} (h : EvN te σ H R) (k : ∀ v H1, Ex H H1 → (∀ H3, Ex H H3 → Since H H1 H3 → R v H3) → D.rt v H1) : tRet te D σ H := h H (Ex.refl H) D.rt k
theorem s_retB {te : TE} {D : Ends} {R : V → Hp → Prop} {B : Hp} (hB : Ex B H) (h : EvN te σ B R) (k : ∀ v H1, Ex H H1 → (∀ H3, Ex B H3 → Since H H1 H3 → R v H3) → D.rt v H1) : tRet te D σ H := h H hB D.rt k
theorem q_asgN {te : TE} {tz : TS} {i : Nat} {D : Ends} {R : V → Hp → Prop} {B : Hp} (hB : Ex B H) (h : EvN te σ B R) (k : ∀ v H1, Ex H H1 → (∀ H3, Ex B H3 → Since H H1 H3 → R v H3) → tz D (σ.set i (some v)) H1) : tSeq (tAsg te (gName i)) tz D σ H := h H hB _ k
def SpN (sp : Sp) (vs : List V) (H : Hp) (R : V → Hp → Prop) : Prop := ∀ H1, Ex H H1 → ∀ Q : VK, (∀ v H2, Ex H1 H2 → (∀ H3, Ex H H3 → Since H1 H2 H3 → R v H3) → Q v H2) → ∀ E : XK, sp vs H1 Q E
theorem en_call {sp : Sp} {dvs vs : List V} {E : XK} {ta : TA} {R : V → Hp → Prop} (h : EvA ta σ H vs) (hs : SpN sp (vs ++ dvs) H R) : EvN (tCall sp dvs E ta) σ H R := fun H1 e Q q =>
  h H1 e _ fun H2 e2 => hs H2 (e.trans e2) Q (fun v H3 e3 hv => q v H3 (e2.trans e3) fun H4 h4 s4 => hv H4 h4 fun a o ha hc => s4 a o (fresh_back e2 ha) hc) E
theorem en_tup {ta : TE} {a : Addr} {xs : List V} (h : Ev ta σ H (.ref a)) (hs : SqL K H a xs) : EvN (tCB (fun xs H Q => ∃ p ys, xs = [V.ref p] ∧ ((SqL K H p ys ∧ ∀ l, H l = none → Q (V.ref l) (upd H l (HO.tup ys))) ∨ (SqT K H p ys ∧ Q (V.ref p) H))) (tCons ta tNil)) σ H
    (fun u H' => ∃ t, u = .ref t ∧ H' t = some (.tup xs)) := fun H1 e Q q =>
  h H1 e _ fun H2 e2 => ⟨a, xs, rfl, .inl ⟨ex_l (e.trans e2) hs, fun t ht => q _ _ (e2.trans (Ex.new ht)) fun H3 _ s3 => ⟨t, rfl, s3 _ _ (fresh_back e2 ht) upd_same⟩⟩⟩
theorem ei_rng2c {σ : L2.St} {H : Hp} {ta : TA} {i j : Int} {n : Nat} (hn : (j - i).toNat = n) (h : Evl.EvA ta σ H [.int i, .int j]) (h0 : -100000 ≤ i ∧ i ≤ 100000) (h1 : -100000 ≤ j ∧ j ≤ 100000) : EvI (iRng2 ta) σ H n (YFn fun k => .int (i + k)) := by
  subst hn
  exact ei_rng2 h h0 h1
theorem ei_rng1c {σ : L2.St} {H : Hp} {ta : TA} {j : Int} {n : Nat} (hn : j.toNat = n) (h : Evl.EvA ta σ H [.int j]) (h0 : 0 ≤ j) (h1 : j ≤ 100000) : EvI (iRng1 ta) σ H n (YFn fun k => .int (0 + k)) := by
  subst hn
  exact ei_rng1 h h0 h1
end
end Hk
end S_Wg
section S_Wh
namespace Hk
open PySem PySem.Spec PyProof.Rows L2 LamX Tl
/-- a def called where no repr is under way, its code object known -/
theorem fn_gC {P : Program} {w : World} {K : PySem.W.Frag} {mg : Str → Option Value} {base : Heap} {x qual : Str} {st : Stmt} {f c : Addr} {fd : FuncData} {N ps : List Str} {k : Nat} {sp : Sp} (F : Fun K x qual st f fd) (hcode : fd.code = .ref c) (S : FnScope N ps (defScope st))
    (len : ∀ {vs H Q E}, sp vs H Q E → vs.length = ps.length)
    (hbody : ∀ (A : Around) (outer : List Env) (s : Shared) (H : Hp) (vs : List V) (Q : VK) (E : XK), A.guards = some [] → Room k (A.deeper (envOfC qual (defScope st) s.heap.objs.size f (.ref c))) → sp vs H Q E →
      ∃ t, PSs (cxOf CX0 P w K mg base N qual (defScope st) f (.ref c) A outer s H E).nox (defBody st) t ∧ t { nx := fun _ H' => Q .non H', rt := Q } (start N vs) H) : FnG P w K mg base (k + 1) f fd ps sp := by
  obtain ⟨oc, od, kV, doc, pm, an, cdv, ct, osl, rfl, lk, hcd⟩ := F.ex
  obtain rfl : cdv = .ref c := hcode
  refine ⟨len, fun {A outer s H args us vs Q E} hgd hr e0 hb r hsp => ?_⟩
  have kin : K.In s.heap := e0.mod.kin.keeps fun b o e => (e0.bs b o e).1
  have nl : s.heap.NoLimit := e0.mod.nolimit.keeps fun b o e => (e0.bs b o e).1
  refine codeAny_call_function hr.depth (kin _ _ lk) rfl S.co S.gen rfl (PySem.W.codeRec_of kin hcd) (hb _ _ _ _ (wpAny_newFunctionEnv_cells S.kind ?_ fun env he s1 x => ?_))
  · intro y hy
    have hp : y.1 ∈ ps := (List.of_mem_zip (a := y.1) (b := y.2) hy).1
    exact (S.par y.1 hp).imp id fun q => ⟨q, PySem.W.cellsFrom_some _ _ _ (.inl q)⟩
  · cases he
    obtain ⟨t, ht, hq⟩ := hbody A outer s H vs Q E hgd (hr.deeper _) hsp
    have I := inv_start (CX := CX0) (P := P) (w := w) (base := base) (E := E) (qual := qual) (f := f) (cd := .ref c) S hr.hd e0 (len hsp) r x
    refine ⟨nl.keeps x.toInCall.keep, codeAny_func (wpAny_mono (ht.nox.run [] s1 (start N vs) H _ I hq) (fun fl s' hs => ?_) fun _ _ hs => hs)⟩
    cases fl with
    | ret u =>
      obtain ⟨v, σ', H', J, rv, q⟩ := hs
      exact ⟨v, H', J.os, J.bare, J.base, J.hok, rv, q⟩
    | next =>
      obtain ⟨σ', H', J, q⟩ := hs
      exact ⟨.non, H', J.os, J.bare, J.base, J.hok, rfl, q⟩
    | brk => exact hs.elim fun _ h => h.elim fun _ h => h.2.elim
    | cont => exact hs.elim fun _ h => h.elim fun _ h => h.2.elim
theorem passF {X : Cx} {P : Program} {w : World} : Passes (L2.CX P w) X E0 := fun _ _ _ _ _ _ _ c => by
  obtain ⟨_, _, _, _, _, _, _, _, _, _, _, _, h⟩ := c
  exact h.elim
section
open Evl
variable {K : PySem.W.Frag} {σ : L2.St} {H H' : Hp} {ta tb te : TE}
theorem el_listT {p : Addr} {xs : List V} (ha : Ev ta σ H (.ref p)) (h : SqT K H p xs) : EvL (tCB (rListS K) (tCons ta tNil)) σ H xs := fun H1 e Q q =>
  ha H1 e _ fun H2 e2 => ⟨p, xs, rfl, .inr (ex_t (e.trans e2) h), fun l hl => q l _ (fresh_back e2 hl) (e2.trans (Ex.new hl)) upd_same⟩
theorem el_listU {xs : List V} (ha : EvU ta σ H xs) : EvL (tCB (rListS K) (tCons ta tNil)) σ H xs := fun H1 e Q q =>
  ha H1 e _ fun p H2 hp e2 h2 => ⟨p, xs, rfl, .inr (st_of h2), fun l hl => q l _ (fresh_back e2 hl) (e2.trans (Ex.new hl)) upd_same⟩
theorem ev_lenU {xs : List V} (ha : EvU ta σ H xs) : Ev (tCB (rLenS K) (tCons ta tNil)) σ H (.int (xs.length : Int)) := fun H1 e Q q =>
  ha H1 e _ fun p H2 _ e2 h2 => ⟨p, xs, rfl, .inr (st_of h2), q H2 e2⟩
/-- a tuple with these items, new or not -/
def EvTp (K : PySem.W.Frag) (te : TE) (σ : L2.St) (H : Hp) (xs : List V) : Prop := ∀ H1, Ex H H1 → ∀ Q : VK, (∀ p H2, Ex H1 H2 → SqT K H2 p xs → Q (.ref p) H2) → te σ H1 Q
theorem tp_u {xs : List V} (h : EvU te σ H xs) : EvTp K te σ H xs := fun H1 e Q q => h H1 e Q fun p H2 _ e2 h2 => q p H2 e2 (st_of h2)
theorem tp_slTo {th : TO} {a : Addr} {xs : List V} {n : Nat} (h : Ev te σ H (.ref a)) (h2 : EvO th σ H (some (n : Int))) (hs : SqT K H a xs) (hn : n ≤ xs.length) : EvTp K (tSl (rSlA K) te tNoPart th) σ H (xs.take n) := fun H1 e Q q =>
  h H1 e _ fun H2 e2 => h2 H2 (e.trans e2) _ fun H4 e4 => by
    have hh := ex_t ((e.trans e2).trans e4) hs
    have ec : cutV xs none (some (n : Int)) = xs.take n := by
      unfold cutV
      rw [HT.sIx_none, HT.sIx_nat, List.drop_zero, Nat.sub_zero, Nat.min_eq_left hn]
    refine ⟨a, xs, rfl, hh, fun hw => ?_, fun _ p hp => ?_⟩
    · have e1 := hw.2
      rw [HT.sIx_nat, Nat.min_eq_left hn] at e1
      refine q a H4 (e2.trans e4) ?_
      rw [e1, List.take_length]
      exact hh
    · rw [ec]
      exact q p _ ((e2.trans e4).trans (Ex.new hp)) (st_of upd_same)
/-- ints, as data -/
def dz (ns : List Int) : List PyData := ns.map PyData.int
theorem dp_z : ∀ (ns : List Int), DpAll K H (ns.map V.int) (dz ns)
  | [] => .nil
  | i :: r => .cons (.int i) (dp_z r)
theorem z_shT (ns : List Int) : SeqAt.shaped (.tuple (dz ns)) = true := by
  unfold dz
  simp [SeqAt.shaped, PyData.canLay0, PyData.depth, PySem.W.ke_canLayAll0, PySem.W.ke_depthAll]
theorem z_shL (ns : List Int) : SeqAt.shaped (.list (dz ns)) = true := PySem.W.ke_shaped_ints ns
theorem et_neTp {ns : List Int} (ha : EvTp K ta σ H (ns.map V.int)) (hb : EvTp K tb σ H (ns.map V.int)) : EvT (tTest (tOp (rNeD K) ta tb)) σ H false := fun H1 e Q q =>
  ha H1 e _ fun p H2 e2 h2 => hb H2 (e.trans e2) _ fun p3 H3 e3 h3 => by
    refine ⟨.tuple (dz ns), .tuple (dz ns), .tup (ex_t e3 h2) (dp_z ns), .tup h3 (dp_z ns), z_shT ns, z_shT ns, ?_⟩
    rw [SeqAt.eqv_refl _ (SeqAt.canLay_of_shaped (z_shT ns))]
    exact ⟨false, rfl, q H3 (e2.trans e3)⟩
theorem et_neLL {ns : List Int} (ha : EvL ta σ H (ns.map V.int)) (hb : EvL tb σ H (ns.map V.int)) : EvT (tTest (tOp (rNeD K) ta tb)) σ H false := fun H1 e Q q =>
  ha H1 e _ fun p H2 _ e2 h2 => hb H2 (e.trans e2) _ fun p3 H3 _ e3 h3 => by
    refine ⟨.list (dz ns), .list (dz ns), .lst (sq_of (e3 _ _ h2)) (dp_z ns), .lst (sq_of h3) (dp_z ns), z_shL ns, z_shL ns, ?_⟩
    rw [SeqAt.eqv_refl _ (SeqAt.canLay_of_shaped (z_shL ns))]
    exact ⟨false, rfl, q H3 (e2.trans e3)⟩
theorem piled_le : ∀ {ts : List Str} {c : Nat}, (∀ t ∈ ts, t.length ≤ c) → piled ts ≤ ts.length * (c + 2)
  | [], c, _ => Nat.zero_le _
  | t :: r, c, h => by
    have h1 := h t List.mem_cons_self
    have h2 := piled_le (ts := r) (c := c) fun u hu => h u (List.mem_cons_of_mem _ hu)
    rw [List.length_cons, Nat.succ_mul]
    show t.length + 2 + piled r ≤ _
    omega
theorem listText_le {ts : List Str} {c : Nat} (h : ∀ t ∈ ts, t.length ≤ c) : (listText ts).length ≤ ts.length * (c + 2) + 3 := by
  have hp := piled_le h
  unfold listText
  rw [strLen_append, show (("]" : String) : Str).length = 1 from rfl]
  cases ts with
  | nil =>
    show ((("[" : String) : Str)).length + 1 ≤ _
    rw [show (("[" : String) : Str).length = 1 from rfl]
    omega
  | cons t r =>
    show (textFrom (0 + 1) _ r).length + 1 ≤ _
    rw [textFrom_length_pos r (0 + 1) _ (by decide), strLen_append, strLen_append, show (("[" : String) : Str).length = 1 from rfl]
    have e2 : (((if 0 > 0 then ", " else "" : String)) : Str).length = 0 := rfl
    rw [e2]
    have e3 : piled (t :: r) = t.length + 2 + piled r := piled_cons t r
    omega
theorem shownAll_eq : ∀ ds : List PyData, PyData.shownAll ds = ds.map PyData.shown
  | [] => rfl
  | d :: r => by rw [PyData.shownAll, shownAll_eq r] <;> rfl
theorem z_len {ns : List Int} {b : Nat} (h1 : ns.length ≤ 10000) (h2 : ∀ x ∈ ns, x.natAbs ≤ 64) : (PyData.list (dz ns)).shown.length ≤ sizeLine := by
  show (listText (PyData.shownAll (dz ns))).length ≤ _
  rw [shownAll_eq]
  have := listText_le (ts := (dz ns).map PyData.shown) (c := 66) fun u hu => by
    unfold dz at hu
    rw [List.map_map] at hu
    obtain ⟨x, hx, rfl⟩ := List.mem_map.mp hu
    have b1 := len_str_of_int x
    have b2 := h2 x hx
    show (Str.ofString (toString x)).length ≤ 66
    omega
  rw [List.length_map] at this
  unfold dz at this
  rw [List.length_map] at this
  have h3 : ns.length * (66 + 2) ≤ 10000 * 68 := Nat.mul_le_mul h1 (Nat.le_refl _)
  rw [sizeLine_eq]
  unfold dz
  omega
theorem z_show : ∀ {ns : List Int}, (∀ x ∈ ns, x.natAbs ≤ 64) → PyData.showableAll (dz ns) = true
  | [], _ => rfl
  | x :: r, h => by
    show (decide (x.natAbs.log2 < 1920) && PyData.showableAll (dz r)) = true
    rw [z_show fun y hy => h y (List.mem_cons_of_mem _ hy), Bool.and_true]
    have h1 := h x List.mem_cons_self
    exact decide_eq_true (Nat.lt_of_le_of_lt (Nat.log2_le_self _) (by omega))
theorem z_nd : ∀ ns : List Int, PyData.hasDictAll (dz ns) = false
  | [] => rfl
  | x :: r => by show (false || PyData.hasDictAll (dz r)) = false; rw [z_nd r] <;> rfl
theorem z_deep (ns : List Int) : (PyData.list (dz ns)).depth ≤ 20 := by
  unfold dz
  simp [PyData.depth, PySem.W.ke_depthAll]
/-- repr of a new list of small ints -/
theorem ev_reprZ {ns : List Int} (h : EvL te σ H (ns.map V.int)) (h1 : ns.length ≤ 10000) (h2 : ∀ x ∈ ns, x.natAbs ≤ 64) : Ev (tCB (rRepr K) (tCons te tNil)) σ H (.str (PyData.list (dz ns)).shown) := fun H1 e Q q =>
  h H1 e _ fun p H2 _ e2 h2' => ⟨p, _, rfl, .lst (sq_of h2') (dp_z ns), z_show h2, z_nd ns, z_deep ns, z_len (b := 0) h1 h2, q H2 e2⟩
theorem et_neStr {z : Str} (h1 : Ev ta σ H (.str z)) (h2 : Ev tb σ H (.str z)) : EvT (tTest (tOp rNe ta tb)) σ H false :=
  et_is (et_test (ev_op h1 h2 (rv_ne rfl))) (by rw [decide_eq_true rfl] <;> rfl)
end
end Hk
end S_Wh
section S_Wl
namespace Hk
open PySem PySem.Spec PyProof.Rows L2 Tl
theorem cutAt (xs : List V) {b h : Nat} (hl : b + h ≤ xs.length) : cutV xs (some (b : Int)) (some ((b + h : Nat) : Int)) = (xs.drop b).take h := by
  unfold cutV
  rw [HT.sIx_nat, HT.sIx_nat, Nat.min_eq_left hl, Nat.min_eq_left (by omega), show b + h - b = h by omega]
section
open Evl
variable {K : PySem.W.Frag} {σ : L2.St} {H : Hp} {ta tb : TE}
def zD (ns : List Int) : List PyData := ns.map PyData.int
theorem dp_zD : ∀ (ns : List Int), DpAll K H (ns.map V.int) (zD ns)
  | [] => .nil
  | i :: r => .cons (.int i) (dp_zD r)
theorem eqv_zD (ns ms : List Int) : PyData.eqv (.list (zD ns)) (.list (zD ms)) = decide (ns = ms) := PySem.W.Datum.eqv (α := List Int) ns ms
/-- two new lists of ints, alike or not -/
theorem ev_eqLL {ns ms : List Int} (ha : EvL ta σ H (ns.map V.int)) (hb : EvL tb σ H (ms.map V.int)) : Ev (tOp (rEqD K) ta tb) σ H (.bl (decide (ns = ms))) :=
  ev_opLL ha hb fun p q H1 h1 h2 _ => fun H2 e2 Q k => by
    refine ⟨.list (zD ns), .list (zD ms), .lst (sq_of (e2 _ _ h1)) (dp_zD ns), .lst (sq_of (e2 _ _ h2)) (dp_zD ms), PySem.W.ke_shaped_ints ns, PySem.W.ke_shaped_ints ms, ?_⟩
    rw [eqv_zD]
    exact k H2 (Ex.refl H2)
end
end Hk
namespace Hk
open PySem PySem.Spec PyProof.Rows L2 Tl
section
open Evl
variable {K : PySem.W.Frag} {σ : L2.St} {H : Hp} {ta tb te : TE} {t : TT}
/-- a comprehension over anything that is walked, with a test: the turns that give, and what -/
theorem el_lcI {wi : TI} {g : TG} {vs : List Nat} {n : Nat} {Y : Nat → Hp → V → Hp → Prop} {s : Nat → L2.St → L2.St} (f : Nat → Bool) (v : Nat → V) (hw : EvI wi σ H n Y) (aim : Aims g n Y s) (hs : ∀ i, wipe (s i (wipe σ vs)) vs = wipe σ vs) (hn : n ≤ 40000)
    (ht : ∀ i H1, Ex H H1 → i < n → EvT t (s i (wipe σ vs)) H1 (f i)) (he : ∀ i H1, Ex H H1 → i < n → f i = true → Ev te (s i (wipe σ vs)) H1 (v i)) : EvL (tLc wi g t te vs) σ H (given n f v) := fun H1 e Q q =>
  hw H1 e _ fun J G H2 e2 w sG D hD => lc_it w (Cw H2 f v D) ⟨hD, Ex.new hD, upd_same⟩ (fun i H' _ p => sG H' ((e.trans e2).trans p.2.1) fun a o _ ha => p.2.1 _ _ ha)
    (fun i x A B hi p y => by
      obtain ⟨ab, k⟩ := aim i (wipe σ vs) A x B hi y
      exact k _ ⟨hs i, cw_turn ⟨p.1, p.2.1.trans ab, ab _ _ p.2.2⟩ (by omega) (ht i H2 (e.trans e2) hi) fun hf => he i H2 (e.trans e2) hi hf⟩)
    (fun H' p => q D H' (fresh_back e2 p.1) (e2.trans p.2.1) p.2.2)
theorem el_catN {xs ys : List V} (ha : EvL ta σ H xs) (hb : EvL tb σ H ys) (hz : xs.length + ys.length ≤ 100000) : EvL (tOp rCat ta tb) σ H (xs ++ ys) := fun H1 e Q q =>
  ha H1 e _ fun a H2 ha' e2 h2 => hb H2 (e.trans e2) _ fun p H3 _ e3 h3 => ⟨a, p, xs, ys, rfl, rfl, e3 _ _ h2, h3, sz_of hz, fun r hr => q r _ (fresh_back (e2.trans e3) hr) ((e2.trans e3).trans (Ex.new hr)) upd_same⟩
end
theorem yes_at {σ : L2.St} {H : Hp} {P R : Hp → Prop} (h : P H) : tYes σ H fun b H3 => if b = true then P H3 else R H3 := by
  show (if true = true then P H else R H)
  rw [if_pos rfl]
  exact h
theorem if_go {b : Bool} {P R : Prop} (h1 : b = true → P) (h2 : b = false → R) : if b = true then P else R := by
  cases b with
  | true => rw [if_pos rfl]; exact h1 rfl
  | false => rw [if_neg (by decide)]; exact h2 rfl
theorem cutTo' (xs : List V) (n : Nat) : cutV xs none (some (n : Int)) = xs.take n := by
  unfold cutV
  rw [HT.sIx_none, HT.sIx_nat, List.drop_zero, Nat.sub_zero]
  by_cases h : n ≤ xs.length
  · rw [Nat.min_eq_left h]
  · rw [Nat.min_eq_right (by omega), List.take_length, List.take_of_length_le (by omega)]
theorem cutFrom (xs : List V) (n : Nat) : cutV xs (some (n : Int)) none = xs.drop n := by
  unfold cutV
  rw [HT.sIx_nat, HT.sIx_none]
  by_cases h : n ≤ xs.length
  · rw [Nat.min_eq_left h, List.take_of_length_le (by rw [List.length_drop]; omega)]
  · rw [Nat.min_eq_right (by omega), Nat.sub_self, List.take_zero, List.drop_of_length_le (by omega)]
end Hk
namespace Hk
open PySem PySem.Spec PyProof.Rows L2 Tl
section
open Evl
variable {K : PySem.W.Frag} {σ : L2.St} {H : Hp} {ta tb te : TE} {t : TT}
theorem el_catNV {m : Addr} {xs ys : List V} (ha : EvL ta σ H xs) (hb : Ev tb σ H (.ref m)) (hm : H m = some (.lst ys)) (hz : xs.length + ys.length ≤ 100000) : EvL (tOp rCat ta tb) σ H (xs ++ ys) := fun H1 e Q q =>
  ha H1 e _ fun a H2 ha' e2 h2 => hb H2 (e.trans e2) _ fun H3 e3 => ⟨a, m, xs, ys, rfl, rfl, e3 _ _ h2, e3 _ _ (e2 _ _ (e _ _ hm)), sz_of hz, fun r hr => q r _ (fresh_back (e2.trans e3) hr) ((e2.trans e3).trans (Ex.new hr)) upd_same⟩
theorem el_rg1 {j : Int} (ha : Ev ta σ H (.int j)) (h : RgOk 0 j) : EvL (tLstRg (tRg1 ta)) σ H (rgV 0 j) := fun H1 e Q q =>
  ha H1 e _ fun H2 e2 => ⟨j, rfl, h, fun p hp => q p _ (fresh_back e2 hp) (e2.trans (Ex.new hp)) upd_same⟩
end
end Hk
namespace Hk
open PySem PySem.Spec PyProof.Rows L2 LamX Tl
theorem tupText_le {ts : List Str} {c : Nat} (h : ∀ t ∈ ts, t.length ≤ c) : (tupleText ts).length ≤ ts.length * (c + 2) + 3 := by
  unfold tupleText
  rw [strLen_append, strLen_append]
  have e1 : (("(" : String) : Str).length = 1 := rfl
  have e2 : (((if ts.length == 1 then ",)" else ")" : String)) : Str).length ≤ 2 := by split <;> decide
  have e3 : (Str.join ", " ts).length ≤ piled ts := by
    cases ts with
    | nil => exact Nat.le_refl _
    | cons t r => have := join_length_add (t :: r) (by simp); omega
  have := piled_le h
  omega
theorem z_lenT {ns : List Int} {c : Nat} (h1 : ns.length * (c + 4) ≤ 100000) (h2 : ∀ x ∈ ns, x.natAbs ≤ c) : (PyData.tuple (dz ns)).shown.length ≤ sizeLine := by
  show (tupleText (PyData.shownAll (dz ns))).length ≤ _
  rw [shownAll_eq]
  have := tupText_le (ts := (dz ns).map PyData.shown) (c := c + 2) fun u hu => by
    unfold dz at hu
    rw [List.map_map] at hu
    obtain ⟨x, hx, rfl⟩ := List.mem_map.mp hu
    have b1 := len_str_of_int x
    have b2 := h2 x hx
    show (Str.ofString (toString x)).length ≤ c + 2
    omega
  rw [List.length_map] at this
  unfold dz at this
  rw [List.length_map] at this
  have h3 : ns.length * (c + 2 + 2) ≤ 100000 := h1
  rw [sizeLine_eq]
  unfold dz
  omega
theorem z_showB {b : Nat} (hb : b < 2 ^ 1000) : ∀ {ns : List Int}, (∀ x ∈ ns, x.natAbs ≤ b) → PyData.showableAll (dz ns) = true
  | [], _ => rfl
  | x :: r, h => by
    show (decide (x.natAbs.log2 < 1920) && PyData.showableAll (dz r)) = true
    rw [z_showB hb fun y hy => h y (List.mem_cons_of_mem _ hy), Bool.and_true]
    have h1 := h x List.mem_cons_self
    refine decide_eq_true ?_
    by_cases z : x.natAbs = 0
    · rw [z]; decide
    · have := (Nat.log2_lt z (k := 1000)).mpr (by omega)
      omega
theorem z_deepT (ns : List Int) : (PyData.tuple (dz ns)).depth ≤ 20 := by
  unfold dz
  simp [PyData.depth, PySem.W.ke_depthAll]
/-- repr of data at an address, or of None -/
def rReprB (K : PySem.W.Frag) : List V → Hp → VK → Prop := fun xs H Q => rRepr K xs H Q ∨ (xs = [.non] ∧ Q (.str "None") H)
theorem call_reprB {X : Cx} (hg : X.A.guards = some []) (hu : X.A.units + 64 < cLine) : CallR X (.builtin "repr") (rReprB X.K) := by
  intro pins s σ H xs us Q I r h
  rcases h with h | ⟨rfl, q⟩
  · exact call_reprD hg hu _ _ _ _ _ _ _ I r h
  · obtain ⟨u, rfl, ru⟩ := vals1 r
    cases ru
    exact PySem.P.repr_of_none ⟨.str "None", H, I.tok _, ⟨_, rfl⟩, q⟩
end Hk
end S_Wl
section S_Ta
namespace P51
open PySem PySem.Spec PyProof.Rows L2 Tl Hk
def topS (i : Nat) : Stmt := PySem.Challenge.pw_threelanes_k51_whole_colours_of_a_line_j.main.body.getD i (.Pass ⟨0, 0, 0, 0⟩)
abbrev sInteger : Stmt := topS 1
abbrev sWithin : Stmt := topS 2
abbrev sList : Stmt := topS 3
abbrev sRow : Stmt := topS 4
abbrev sNumC : Stmt := topS 7
abbrev sColC : Stmt := topS 8
abbrev sWordC : Stmt := topS 9
abbrev sManyC : Stmt := topS 10
abbrev sFixed : Stmt := topS 12
abbrev sAreEq : Stmt := topS 13
abbrev sPaperC : Stmt := topS 14
abbrev sDenialC : Stmt := topS 15
abbrev sWant : Stmt := topS 17
abbrev sIsWord : Stmt := topS 20
abbrev sPlain : Stmt := topS 21
abbrev sFirst : Stmt := topS 22
abbrev sIsRep : Stmt := topS 23
abbrev sBegin : Stmt := topS 24
abbrev sCalmC : Stmt := topS 29
abbrev sStrayC : Stmt := topS 30
abbrev sLineCol : Stmt := topS 31
abbrev sLineRow : Stmt := topS 32
abbrev sLineWalk : Stmt := topS 33
abbrev sJudged : Stmt := topS 34
abbrev sShows : Stmt := topS 35
abbrev sWantLine : Stmt := topS 36
abbrev sStrayWalk : Stmt := topS 37
abbrev sIsStray : Stmt := topS 38
abbrev sTub : Stmt := topS 40
abbrev sScoop : Stmt := topS 41
abbrev sPick : Stmt := topS 42
abbrev sLStray : Stmt := topS 43
abbrev sDrawn : Stmt := topS 44
abbrev sPCalm : Stmt := topS 45
abbrev sLIsStray : Stmt := topS 46
abbrev sBent : Stmt := topS 47
abbrev sLong : Stmt := topS 48
abbrev sLaw : Stmt := topS 49
/-- a plain value and the name of its type -/
inductive Ty7 (K : PySem.W.Frag) (H : Hp) : V → String → Prop where
  | non : Ty7 K H .non "NoneType"
  | bl (b : Bool) : Ty7 K H (.bl b) "bool"
  | int (i : Int) : Ty7 K H (.int i) "int"
  | str (s : Str) : Ty7 K H (.str s) "str"
  | lst {a : Addr} {xs : List V} (h : SqL K H a xs) : Ty7 K H (.ref a) "list"
  | tup {a : Addr} {xs : List V} (h : SqT K H a xs) : Ty7 K H (.ref a) "tuple"
  | dK {a : Addr} {kvs : List (L2.Key × V)} (h : H a = some (.dK kvs)) : Ty7 K H (.ref a) "dict"
section
variable {K : PySem.W.Frag} {H H' : Hp} {x : V} {n : String}
theorem Ty7.tyx (h : Ty7 K H x n) : TyX K H x (.type n) := by
  cases h with
  | non => exact .base .non
  | bl b => exact .base (.bl b)
  | int i => exact .base (.int i)
  | str s => exact .base (.str s)
  | lst h =>
    rcases h with (h | ⟨o, h⟩) | ⟨o, its, m, h1, h2, _⟩
    · exact .base (.lst h)
    · exact .base (.frz h)
    · exact .kList h1 h2
  | tup h =>
    rcases h with (h | ⟨o, h⟩) | ⟨o, its, m, h1, h2, _⟩
    · exact .base (.tup h)
    · exact .fTuple h
    · exact .kTuple h1 h2
  | dK h => exact .base (.dK h)
theorem Ty7.ex (h : Ty7 K H x n) (e : Evl.Ex H H') : Ty7 K H' x n := by
  cases h with
  | non => exact .non
  | bl b => exact .bl b
  | int i => exact .int i
  | str s => exact .str s
  | lst h => exact .lst (Evl.ex_l e h)
  | tup h => exact .tup (Evl.ex_t e h)
  | dK h => exact .dK (e _ _ h)
/-- isinstance of one built-in class -/
def is7 (n c : String) : Bool := (L2.kitB n c).getD false
theorem Ty7.kit (h : Ty7 K H x n) {c : String} (hc : c = "int" ∨ c = "bool" ∨ c = "list" ∨ c = "tuple") : PySem.W.kitOne K (.type n) (.type c) = some (is7 n c) := by
  refine kit_ty ?_
  rcases hc with rfl | rfl | rfl | rfl <;> cases h <;> decide +kernel
theorem Ty7.isInt (h : Ty7 K H x n) : (is7 n "int" && !is7 n "bool") = decide (n = "int") := by
  cases h <;> decide +kernel
theorem Ty7.isSeq (h : Ty7 K H x n) : (is7 n "list" || is7 n "tuple") = (decide (n = "list") || decide (n = "tuple")) := by
  cases h <;> decide +kernel
theorem rc_isi (h : Ty7 K H x n) {c : String} (hc : c = "int" ∨ c = "bool" ∨ c = "list" ∨ c = "tuple") : Evl.RC (rIsi K) [x, .ty c] H (.bl (is7 n c)) :=
  fun H1 e _ q => ⟨x, .ty c, .type n, .type c, is7 n c, rfl, .ty c, (h.ex e).tyx, (h.ex e).kit hc, q H1 (Evl.Ex.refl H1)⟩
theorem rv_isN : Evl.RV (fun x y H Q => y = .non ∧ Q (.bl (decide (x = .non))) H) x .non H (.bl (decide (x = .non))) := fun H1 _ _ q => ⟨rfl, q H1 (Evl.Ex.refl H1)⟩
end
/-- None, or an integer -/
def Bnd : V → Prop
  | .non => True
  | .int _ => True
  | _ => False
def okLo : V → Int → Bool
  | .int j, i => decide (j ≤ i)
  | _, _ => true
def okHi : V → Int → Bool
  | .int j, i => decide (i ≤ j)
  | _, _ => true
/-- whether it is an integer within the bounds -/
def wi : V → V → V → Bool
  | .int i, lo, hi => okLo lo i && okHi hi i
  | _, _, _ => false
def spInteger (K : PySem.W.Frag) : Sp := fun vs H Q _ => ∃ (x : V) (n : String), vs = [x] ∧ Ty7 K H x n ∧ ∀ H1, Evl.Ex H H1 → Q (.bl (decide (n = "int"))) H1
theorem spv_integer {K : PySem.W.Frag} {H : Hp} {x : V} {n : String} (h : Ty7 K H x n) : Evl.SpV (spInteger K) [x] H (.bl (decide (n = "int"))) := fun H1 e Q q E => ⟨x, n, rfl, h.ex e, q⟩
def spWithin (K : PySem.W.Frag) : Sp := fun vs H Q _ => ∃ (x lo hi : V) (n : String), vs = [x, lo, hi] ∧ Ty7 K H x n ∧ Bnd lo ∧ Bnd hi ∧ ∀ H1, Evl.Ex H H1 → Q (.bl (wi x lo hi)) H1
theorem spv_within {K : PySem.W.Frag} {H : Hp} {x lo hi : V} {n : String} (h : Ty7 K H x n) (h1 : Bnd lo) (h2 : Bnd hi) : Evl.SpV (spWithin K) [x, lo, hi] H (.bl (wi x lo hi)) := fun H1 e Q q E => ⟨x, lo, hi, n, rfl, h.ex e, h1, h2, q⟩
def spList (K : PySem.W.Frag) : Sp := fun vs H Q _ => ∃ (x : V) (n : String), vs = [x] ∧ Ty7 K H x n ∧ ∀ H1, Evl.Ex H H1 → Q (.bl (decide (n = "list") || decide (n = "tuple"))) H1
theorem spv_list {K : PySem.W.Frag} {H : Hp} {x : V} {n : String} (h : Ty7 K H x n) : Evl.SpV (spList K) [x] H (.bl (decide (n = "list") || decide (n = "tuple"))) := fun H1 e Q q E => ⟨x, n, rfl, h.ex e, q⟩
theorem scInteger : FnScope ["value"] ["value"] (defScope sInteger) := ⟨rfl, rfl, rfl, by decide +kernel, rfl, by decide +kernel, by decide +kernel⟩
theorem scWithin : FnScope ["value", "least", "most"] ["value", "least", "most"] (defScope sWithin) := ⟨rfl, rfl, rfl, by decide +kernel, rfl, by decide +kernel, by decide +kernel⟩
theorem scList : FnScope ["value"] ["value"] (defScope sList) := ⟨rfl, rfl, rfl, by decide +kernel, rfl, by decide +kernel, by decide +kernel⟩
section
variable {P : Program} {w : World} {K : PySem.W.Frag} {mg : Str → Option Value} {base : Heap}
theorem ok_integer {f : Addr} {fd : FuncData} {k : Nat} (F : Fun K "is_integer" "is_integer" sInteger f fd) (mi : mg "isinstance" = none) (mint : mg "int" = none) (mbool : mg "bool" = none) : FnOk P w K mg base CX0 (k + 1) f fd ["value"] (spInteger K) := by
  refine F.ok scInteger (fun vs H Q E h => ?_) (fun cdv A outer s H vs Q E hr h => ?_)
  · obtain ⟨x, n, rfl, _⟩ := h
    rfl
  · obtain ⟨x, n, rfl, h, q⟩ := h
    refine ⟨_, pss_one (ps_ret (pe_and (pe_callB call_isi (by rfl) mi (by decide +kernel) (pa_cons (pv 0) (pa_cons (pe_bltn (v := .ty "int") (by rfl) mint (by decide +kernel) rfl) pa_nil)))
      (pe_one (pe_not (pe_callB call_isi (by rfl) mi (by decide +kernel) (pa_cons (pv 0) (pa_cons (pe_bltn (v := .ty "bool") (by rfl) mbool (by decide +kernel) rfl) pa_nil))))))), ?_⟩
    refine Evl.s_ret (v := .bl (is7 n "int" && !is7 n "bool")) (Evl.ev_andV (Evl.ev_cb (Evl.ea_cons (Evl.ev_var rfl) (Evl.ea_cons Evl.ev_c Evl.ea_nil)) (rc_isi h (.inl rfl))) fun _ =>
      Evl.ev_notV (Evl.ev_cb (Evl.ea_cons (Evl.ev_var rfl) (Evl.ea_cons Evl.ev_c Evl.ea_nil)) (rc_isi h (.inr (.inl rfl))))) fun H1 e1 => ?_
    rw [h.isInt]
    exact q H1 e1
theorem ok_list {f : Addr} {fd : FuncData} {k : Nat} (F : Fun K "is_list" "is_list" sList f fd) (mi : mg "isinstance" = none) (ml : mg "list" = none) (mt : mg "tuple" = none) : FnOk P w K mg base CX0 (k + 1) f fd ["value"] (spList K) := by
  refine F.ok scList (fun vs H Q E h => ?_) (fun cdv A outer s H vs Q E hr h => ?_)
  · obtain ⟨x, n, rfl, _⟩ := h
    rfl
  · obtain ⟨x, n, rfl, h, q⟩ := h
    refine ⟨_, pss_one (ps_ret (pe_callB call_isiT (by rfl) mi (by decide +kernel) (pa_cons (pv 0) (pa_cons (pe_tup (pa_cons (pe_bltn (v := .ty "list") (by rfl) ml (by decide +kernel) rfl) (pa_cons (pe_bltn (v := .ty "tuple") (by rfl) mt (by decide +kernel) rfl) pa_nil))) pa_nil)))), ?_⟩
    refine ⟨x, rfl, (by show 2 ≤ sizeLine; decide), fun T hT => ⟨x, T, [.ty "list", .ty "tuple"], .type n, [.type "list", .type "tuple"], is7 n "list" || is7 n "tuple", rfl, upd_same, .cons (.ty _) (.cons (.ty _) .nil), (h.ex (Evl.Ex.new hT)).tyx, ?_, ?_⟩⟩
    · refine kitAny_cons (h.kit (.inr (.inr (.inl rfl)))) (fun hb => kitAny_cons (h.kit (.inr (.inr (.inr rfl)))) (fun hb2 => ?_) fun hb2 => ?_) fun hb => ?_
      · rw [hb, hb2]; exact kitAny_nil
      · rw [hb2, Bool.or_true]
      · rw [hb, Bool.true_or]
    · show Q _ _
      rw [h.isSeq]
      exact q _ (Evl.Ex.new hT)
theorem ok_within {f fI : Addr} {fd fdI : FuncData} {k : Nat} (F : Fun K "is_within" "is_within" sWithin f fd) (FI : Fun K "is_integer" "is_integer" sInteger fI fdI) (GI : FnOk P w K mg base CX0 k fI fdI ["value"] (spInteger K)) (bI : Binds K fdI ["value"] []) (gI : mg "is_integer" = some (.ref fI)) :
    FnOk P w K mg base CX0 (k + 1) f fd ["value", "least", "most"] (spWithin K) := by
  refine F.ok scWithin (fun vs H Q E h => ?_) (fun cdv A outer s H vs Q E hr h => ?_)
  · obtain ⟨x, lo, hi, n, rfl, _⟩ := h
    rfl
  · obtain ⟨x, lo, hi, n, rfl, h, hlo, hhi, q⟩ := h
    refine ⟨_, pss_cons (ps_if (pt_not (pt_val (pe_call GI hr (by rfl) gI FI.kp bI .nil pass0 (pa_cons (pv 0) pa_nil)))) (pss_one (ps_ret pe_bl)) pss_nil)
      (pss_one (ps_ret (pe_and (pe_or (pe_cmpR op_isN (pv 1) pe_non (nomark _)) (pe_one (pe_cmpR op_ge (pv 0) (pv 1) (nomark _)))) (pe_one (pe_or (pe_cmpR op_isN (pv 2) pe_non (nomark _)) (pe_one (pe_cmpR op_le (pv 0) (pv 2) (nomark _)))))))), ?_⟩
    refine Evl.q_when (Evl.et_not (Evl.et_B (Evl.ev_call (Evl.ea_cons (Evl.ev_var rfl) Evl.ea_nil) (spv_integer h)))) (fun hb H1 e1 => ?_) (fun hb H1 e1 => ?_)
    · refine Evl.s_ret Evl.ev_c fun H2 e2 => ?_
      have hw : wi x lo hi = false := by
        cases h with
        | int i => exact absurd hb (by decide)
        | _ => rfl
      rw [← hw]
      exact q H2 (e1.trans e2)
    · cases h with
      | int i =>
        have hA : Evl.Ev (tOrV (tOp (fun x y H Q => y = .non ∧ Q (.bl (decide (x = .non))) H) (tVar 1) (tC .non)) (tOp (rI0 fun i j => V.bl (decide (j ≤ i))) (tVar 0) (tVar 1))) (start ["value", "least", "most"] [.int i, lo, hi]) H1 (.bl (okLo lo i)) := by
          cases lo with
          | non => exact Evl.ev_is (Evl.ev_orV (b := true) (Evl.ev_op (Evl.ev_var rfl) Evl.ev_c rv_isN) fun z => absurd z (by decide)) rfl
          | int j => exact Evl.ev_is (Evl.ev_orV (Evl.ev_op (Evl.ev_var rfl) Evl.ev_c rv_isN) fun _ => Evl.ev_op (Evl.ev_var rfl) (Evl.ev_var rfl) Evl.rv_I0) (by rw [show decide (V.int j = V.non) = false from rfl] <;> rfl)
          | _ => exact hlo.elim
        have hB : Evl.Ev (tOrV (tOp (fun x y H Q => y = .non ∧ Q (.bl (decide (x = .non))) H) (tVar 2) (tC .non)) (tOp (rI0 fun i j => V.bl (decide (i ≤ j))) (tVar 0) (tVar 2))) (start ["value", "least", "most"] [.int i, lo, hi]) H1 (.bl (okHi hi i)) := by
          cases hi with
          | non => exact Evl.ev_is (Evl.ev_orV (b := true) (Evl.ev_op (Evl.ev_var rfl) Evl.ev_c rv_isN) fun z => absurd z (by decide)) rfl
          | int j => exact Evl.ev_is (Evl.ev_orV (Evl.ev_op (Evl.ev_var rfl) Evl.ev_c rv_isN) fun _ => Evl.ev_op (Evl.ev_var rfl) (Evl.ev_var rfl) Evl.rv_I0) (by rw [show decide (V.int j = V.non) = false from rfl] <;> rfl)
          | _ => exact hhi.elim
        exact Evl.s_ret (Evl.ev_andV hA fun _ => hB) fun H2 e2 => q H2 (e1.trans e2)
      | _ => exact absurd hb (by decide)
end

theorem ev_allN {K : PySem.W.Frag} {ta : TE} {σ : L2.St} {H : Hp} {bs : List Bool} (h : Evl.EvL ta σ H (bs.map V.bl)) : Evl.Ev (tCB (rAll K) (tCons ta tNil)) σ H (.bl (bs.all id)) := fun H1 e Q q =>
  h H1 e _ fun p H2 _ e2 h2 => ⟨p, bs, rfl, Evl.sq_of h2, q H2 e2⟩
/-- a comprehension over a tuple that stands -/
theorem el_lcT {K : PySem.W.Frag} {a : Addr} {xs : List V} {tl te : TE} {t : TT} {σ : L2.St} {H : Hp} {j : Nat} {vs : List Nat} (f : Nat → Bool) (v : Nat → V) (h : Evl.Ev tl σ H (.ref a)) (hx : SqT K H a xs) (hz : xs.length ≤ 40000)
    (hw : ∀ x, wipe ((wipe σ vs).set j (some x)) vs = wipe σ vs) (ht : ∀ (i : Nat) (x : V) H1, Evl.Ex H H1 → xs[i]? = some x → Evl.EvT t ((wipe σ vs).set j (some x)) H1 (f i))
    (he : ∀ (i : Nat) (x : V) H1, Evl.Ex H H1 → xs[i]? = some x → f i = true → Evl.Ev te ((wipe σ vs).set j (some x)) H1 (v i)) : Evl.EvL (tLc (iTup K tl) (gName j) t te vs) σ H (Evl.given xs.length f v) := by
  intro H0 e Q q
  refine h H0 e _ fun H1 e1 => ⟨a, rfl, ⟨xs, Evl.ex_t (e.trans e1) hx⟩, fun Dl hD => lc_tup (xs := xs) (Evl.Cw H1 f v Dl) ⟨hD, Evl.Ex.new hD, upd_same⟩ (fun i H' _ p => Evl.ex_t ((e.trans e1).trans p.2.1) hx) (fun i x H' hi p => ⟨hw x, ?_⟩) fun H' p => q Dl H' (Evl.fresh_back e1 p.1) (e1.trans p.2.1) p.2.2⟩
  have hlt := (List.getElem?_eq_some_iff.mp hi).1
  exact Evl.cw_turn p (by omega) (ht i x H1 (e.trans e1) hi) fun hf => he i x H1 (e.trans e1) hi hf

end P51
end S_Ta
section S_Tb
namespace P51
open PySem PySem.Spec PyProof.Rows L2 Tl Hk
theorem scScoop : FnScope ["cord", "many", "left", "turn", "cell", "mixed"] ["cord", "many"] (defScope sScoop) := ⟨rfl, rfl, rfl, by decide +kernel, rfl, by decide +kernel, by decide +kernel⟩

/-- all but the object at t is as it was -/
def Kept (t : Addr) (H H' : Hp) : Prop := ∀ a o, a ≠ t → H a = some o → H' a = some o
theorem Kept.refl (t : Addr) (H : Hp) : Kept t H H := fun _ _ _ h => h
theorem Kept.trans {t : Addr} {H H1 H2 : Hp} (a : Kept t H H1) (b : Kept t H1 H2) : Kept t H H2 := fun x o n h => b x o n (a x o n h)
theorem Kept.of {t : Addr} {H H' : Hp} (e : Same H H') : Kept t H H' := fun x o _ h => e x o h
theorem Kept.upd (t : Addr) (H : Hp) (o : HO) : Kept t H (upd H t o) := fun a u n e => by
  rw [upd_ne n]
  exact e
theorem Kept.seq {K : PySem.W.Frag} {t : Addr} {H H' : Hp} {c : Addr} {xs : List V} (k : Kept t H H') (n : c ≠ t) (h : SqL K H c xs) : SqL K H' c xs := by
  rcases h with (h | ⟨o, h⟩) | h
  · exact .inl (.inl (k _ _ n h))
  · exact .inl (.inr ⟨o, k _ _ n h⟩)
  · exact .inr h
/-- the drawer of numbers at t: its cells at c, its turn of n at most, its rest -/
def Tub (H : Hp) (t c : Addr) (n : Nat) : Prop := ∃ (cs : List Int) (turn rest : Int),
  H t = some (.lst [.ref c, .int turn, .int rest]) ∧ H c = some (.lst (cs.map V.int)) ∧ c ≠ t ∧ cs.length ≤ 61 ∧ 0 ≤ turn ∧ turn ≤ n ∧ 0 ≤ rest
theorem Tub.mono {H : Hp} {t c : Addr} {n m : Nat} (T : Tub H t c n) (h : n ≤ m) : Tub H t c m := by
  obtain ⟨cs, turn, rest, h1, h2, h3, h4, h5, h6, h7⟩ := T
  exact ⟨cs, turn, rest, h1, h2, h3, h4, h5, by omega, h7⟩
theorem Tub.same {H H' : Hp} {t c : Addr} {n : Nat} (T : Tub H t c n) (e : Same H H') : Tub H' t c n := by
  obtain ⟨cs, turn, rest, h1, h2, h3, h4, h5, h6, h7⟩ := T
  exact ⟨cs, turn, rest, e _ _ h1, e _ _ h2, h3, h4, h5, h6, h7⟩
theorem Tub.ne {H : Hp} {t c p : Addr} {n : Nat} (T : Tub H t c n) (h : H p = none) : p ≠ t ∧ p ≠ c := by
  obtain ⟨cs, turn, rest, h1, h2, _⟩ := T
  exact ⟨(ne_of_none h1 h).symm, (ne_of_none h2 h).symm⟩
/-- an object that is neither of the drawer's two may change -/
theorem Tub.upd {H : Hp} {t c p : Addr} {n : Nat} {o : HO} (T : Tub H t c n) (h1 : p ≠ t) (h2 : p ≠ c) : Tub (upd H p o) t c n := by
  obtain ⟨cs, turn, rest, a1, a2, h⟩ := T
  refine ⟨cs, turn, rest, ?_, ?_, h⟩
  · rw [upd_ne h1.symm]
    exact a1
  · rw [upd_ne h2.symm]
    exact a2
theorem same_new {H : Hp} {p : Addr} {o : HO} (h : H p = none) : Same H (upd H p o) := fun b x e => by
  rw [upd_ne (ne_of_none e h)]
  exact e

open Evl in
theorem kept_ex {t : Addr} {H H' : Hp} (e : Evl.Ex H H') : Kept t H H' := fun x o _ h => e x o h
theorem Tub.ex {H H' : Hp} {t c : Addr} {n : Nat} (T : Tub H t c n) (e : Evl.Ex H H') : Tub H' t c n := T.same e
section
open Evl
variable {K : PySem.W.Frag} {σ : L2.St} {H H' : Hp} {ta tb te : TE} {x y z v : V}
theorem ev_int {i : Int} (h : Ev ta σ H (.int i)) : Ev (tCB (fun xs H Q => (∃ i, xs = [V.int i] ∧ Q (V.int i) H) ∨ ∃ k, xs = [V.bl k] ∧ Q (V.int (if k = true then 1 else 0)) H) (tCons ta tNil)) σ H (.int i) :=
  ev_cb (ea_cons h ea_nil) fun H1 _ _ q => .inl ⟨i, rfl, q H1 (Ex.refl H1)⟩
theorem ev_intB {b : Bool} (h : Ev ta σ H (.bl b)) : Ev (tCB (fun xs H Q => (∃ i, xs = [V.int i] ∧ Q (V.int i) H) ∨ ∃ k, xs = [V.bl k] ∧ Q (V.int (if k = true then 1 else 0)) H) (tCons ta tNil)) σ H (.int (if b = true then 1 else 0)) :=
  ev_cb (ea_cons h ea_nil) fun H1 _ _ q => .inr ⟨b, rfl, q H1 (Ex.refl H1)⟩
theorem ev_abs {i : Int} (h : Ev ta σ H (.int i)) : Ev (tCB (fun xs H Q => ∃ i, xs = [V.int i] ∧ Q (V.int (if i < 0 then -i else i)) H) (tCons ta tNil)) σ H (.int (if i < 0 then -i else i)) :=
  ev_cb (ea_cons h ea_nil) fun H1 _ _ q => ⟨i, rfl, q H1 (Ex.refl H1)⟩
theorem dp_ints {c : Addr} : ∀ (cs : List Int), DpAll K H (cs.map V.int) (cs.map PyData.int)
  | [] => .nil
  | i :: r => .cons (.int i) (dp_ints (c := c) r)
/-- a list of ints is not the empty one -/
theorem ev_neNil {c : Addr} {cs : List Int} (h : Ev ta σ H (.ref c)) (hc : SqL K H c (cs.map V.int)) : Ev (tOp (rNeD K) ta (tLst tNil)) σ H (.bl (!cs.isEmpty)) :=
  ev_opL (xs := []) h (el_lst ea_nil (Nat.zero_le _)) fun p H1 hp e => fun H2 e2 Q q => by
    refine ⟨.list (cs.map PyData.int), .list [], .lst (ex_l (e.trans e2) hc) (dp_ints (c := c) cs), .lst (sq_of (e2 _ _ hp)) .nil, PySem.W.ke_shaped_ints cs, by decide +kernel, ?_⟩
    have e3 : PyData.eqv (.list (cs.map PyData.int)) (.list []) = cs.isEmpty := by cases cs <;> rfl
    rw [e3]
    exact q H2 (Ex.refl H2)
theorem fmod_pos {a b : Int} (hb : 1 ≤ b) : 0 ≤ a.fmod b ∧ a.fmod b < b := by
  rw [Int.fmod_eq_emod_of_nonneg a (by omega)]
  exact ⟨Int.emod_nonneg _ (by omega), Int.emod_lt_of_pos _ (by omega)⟩
theorem fdiv_pos {a b : Int} (ha : 0 ≤ a) (hb : 1 ≤ b) : 0 ≤ a.fdiv b := by
  rw [Int.fdiv_eq_ediv_of_nonneg a (by omega)]
  exact Int.ediv_nonneg ha (by omega)
theorem mix_a {x turn : Int} (hx0 : 0 ≤ x) (hx : x < 2147483648) (h0 : 0 ≤ turn) (h1 : turn ≤ 1000000) : (x + 85229 * turn + 8221).natAbs < 2 ^ 64 := by omega
theorem mix_b {m turn : Int} (hm0 : 0 ≤ m) (hm : m < 2147483648) (h0 : 0 ≤ turn) (h1 : turn ≤ 1000000) : (m * (2 * turn + 8221) + 109147 * turn * turn + 85229).natAbs < 2 ^ 64 := by
  have a1 : m * (2 * turn + 8221) ≤ 2147483648 * 2008221 := Int.mul_le_mul (by omega) (by omega) (by omega) (by omega)
  have a2 : 0 ≤ m * (2 * turn + 8221) := Int.mul_nonneg hm0 (by omega)
  have b1 : 109147 * turn * turn ≤ 109147000000 * 1000000 := Int.mul_le_mul (by omega) (by omega) (by omega) (by omega)
  have b2 : 0 ≤ 109147 * turn * turn := Int.mul_nonneg (by omega) (by omega)
  generalize m * (2 * turn + 8221) = p at *
  generalize 109147 * turn * turn = r at *
  omega
theorem cell_at (cs : List Int) (turn d : Int) (h0 : 0 ≤ turn) : ∃ z, (cs.isEmpty = false → atI (cs.map V.int) (turn.fmod ((cs.map V.int).length : Int)) = some (.int z)) ∧ (cs.isEmpty = true → z = d) := by
  cases cs with
  | nil => exact ⟨d, fun h => (nomatch h), fun _ => rfl⟩
  | cons x r =>
    have hb := fmod_pos (a := turn) (b := (((x :: r).map V.int).length : Int)) (by rw [List.length_map, List.length_cons]; omega)
    obtain ⟨j, hj⟩ : ∃ j : Nat, turn.fmod (((x :: r).map V.int).length : Int) = (j : Int) := ⟨(turn.fmod (((x :: r).map V.int).length : Int)).toNat, by omega⟩
    rw [hj] at hb ⊢
    have hl : j < (x :: r).length := by
      rw [List.length_map] at hb
      omega
    refine ⟨(x :: r)[j], fun _ => atI_nat ?_, fun h => (nomatch h)⟩
    rw [List.getElem?_map, List.getElem?_eq_getElem hl]
    rfl
end

def spScoop : Sp := fun vs H Q _ => ∃ (t c : Addr) (many : Int) (n : Nat), vs = [.ref t, .int many] ∧ Tub H t c n ∧ n ≤ 1000000 ∧ 1 ≤ many ∧ many ≤ 100000 ∧
  ∀ r H', 0 ≤ r → r < many → Kept t H H' → Tub H' t c (n + 1) → Q (.int r) H'
section
variable {P : Program} {w : World} {K : PySem.W.Frag} {mg : Str → Option Value} {base : Heap}
theorem ok_scoop {f : Addr} {fd : FuncData} {k : Nat} (F : Fun K "_law_ply" "_law_ply" sScoop f fd) (mint : mg "int" = none) (mlen : mg "len" = none) (mabs : mg "abs" = none) : FnOk P w K mg base CX0 (k + 1) f fd ["cord", "many"] spScoop := by
  refine F.ok scScoop (fun vs H Q E h => ?_) (fun cdv A outer s H vs Q E hr h => ?_)
  · obtain ⟨t, c, m, n, rfl, _⟩ := h
    rfl
  · obtain ⟨t, c, many, n, rfl, hT, hn, hm1, hm2, q⟩ := h
    have nd := scScoop.nd
    refine ⟨_, pss_cons (ps_if (pt_cmpR op_gt (pe_ix ix_list (pv 0) pe_int (fun _ _ => rfl)) pe_int (nomark _))
        (pss_cons (ps_set (i := 2) nd rfl (.inl rfl) (pe_callTy call_int1 (by rfl) mint (by decide +kernel) (pa_cons (pe_ix ix_list (pv 0) pe_int (fun _ _ => rfl)) pa_nil)))
        (pss_cons (ps_asg (pe_op op_fdivN (pv 2) (pv 1)) (pg_sub (pv 0) pe_int set_list))
        (pss_one (ps_ret (pe_op op_modN (pe_callTy call_int1 (by rfl) mint (by decide +kernel) (pa_cons (pv 2) pa_nil)) (pv 1)))))) pss_nil)
      (pss_cons (ps_set (i := 3) nd rfl (.inl rfl) (pe_ix ix_list (pv 0) pe_int (fun _ _ => rfl)))
      (pss_cons (ps_asg (pe_op op_add (pv 3) pe_int) (pg_sub (pv 0) pe_int set_list))
      (pss_cons (ps_set (i := 4) nd rfl (.inl rfl) (pe_op op_add (pe_op op_mul pe_int (pv 3)) pe_int))
      (pss_cons (ps_if (pt_cmpR (op_neD hr.units) (pe_ix ix_list (pv 0) pe_int (fun _ _ => rfl)) (pe_lst pa_nil) (nomark _))
        (pss_one (ps_set (i := 4) nd rfl (.inl rfl) (pe_ix ix_list (pe_ix ix_list (pv 0) pe_int (fun _ _ => rfl)) (pe_op op_modN (pe_callTy call_int1 (by rfl) mint (by decide +kernel) (pa_cons (pv 3) pa_nil)) (pe_callB call_len_seq (by rfl) mlen PySem.boot_len (pa_cons (pe_ix ix_list (pv 0) pe_int (fun _ _ => rfl)) pa_nil))) (fun _ _ => rfl)))) pss_nil)
      (pss_cons (ps_if (PW.pt (pw_and (pt_cmpR op_lt (pv 3) (pe_callB call_len_seq (by rfl) mlen PySem.boot_len (pa_cons (pe_ix ix_list (pv 0) pe_int (fun _ _ => rfl)) pa_nil)) (nomark _)) (pw_and1 (pt_cmpR op_ge (pe_callB call_abs (by rfl) mabs (by decide +kernel) (pa_cons (pv 4) pa_nil)) (pe_op op_pow pe_int pe_int) (nomark _)))))
        (pss_cons (ps_set (i := 2) nd rfl (.inl rfl) (pe_op op_add (pe_op op_mul pe_int (pe_op op_sub (pe_callB call_abs (by rfl) mabs (by decide +kernel) (pa_cons (pe_callTy call_int1 (by rfl) mint (by decide +kernel) (pa_cons (pv 4) pa_nil)) pa_nil)) (pe_op op_pow pe_int pe_int))) (pe_callTy call_int1 (by rfl) mint (by decide +kernel) (pa_cons (pe_cmpR op_lt (pv 4) pe_int (nomark _)) pa_nil))))
        (pss_cons (ps_asg (pe_op op_fdivN (pv 2) (pv 1)) (pg_sub (pv 0) pe_int set_list))
        (pss_one (ps_ret (pe_op op_modN (pe_callTy call_int1 (by rfl) mint (by decide +kernel) (pa_cons (pv 2) pa_nil)) (pv 1)))))) pss_nil)
      (pss_cons (ps_set (i := 5) nd rfl (.inl rfl) (pe_op op_modN (pe_callTy call_int1 (by rfl) mint (by decide +kernel) (pa_cons (pe_op op_pow (pe_op op_add (pe_op op_add (pe_op op_modN (pe_callTy call_int1 (by rfl) mint (by decide +kernel) (pa_cons (pv 4) pa_nil)) pe_int) (pe_op op_mul pe_int (pv 3))) pe_int) pe_int) pa_nil)) pe_int))
      (pss_cons (ps_set (i := 5) nd rfl (.inl rfl) (pe_op op_modN (pe_callTy call_int1 (by rfl) mint (by decide +kernel) (pa_cons (pe_op op_pow (pe_op op_add (pe_op op_add (pe_op op_mul (pv 5) (pe_op op_add (pe_op op_mul pe_int (pv 3)) pe_int)) (pe_op op_mul (pe_op op_mul pe_int (pv 3)) (pv 3))) pe_int) pe_int) pa_nil)) pe_int))
      (pss_one (ps_ret (pe_op op_modN (pe_callTy call_int1 (by rfl) mint (by decide +kernel) (pa_cons (pe_op op_fdivN (pv 5) pe_int) pa_nil)) (pv 1))))))))))), ?_⟩
    obtain ⟨cs, turn, rest, ht, hc, hct, hcl, hu0, hun, hr0⟩ := hT
    have tubAt : ∀ {σ : L2.St} {H' : Hp} {j : Nat} {v : V} {xs : List V}, σ[0]? = some (some (.ref t)) → H' t = some (.lst xs) → xs[j]? = some v → Evl.Ev (tOp (rIxL K) (tVar 0) (tC (.int (j : Int)))) σ H' v :=
      fun hs h hv => Evl.ev_op (Evl.ev_var hs) Evl.ev_c (Evl.rv_ixL (Evl.sq_of h) (atI_nat hv))
    have turnS : turn ≤ 1000000 := by omega
    refine Evl.q_when (b := decide (0 < rest)) (Evl.et_test (Evl.ev_op (tubAt (j := 2) rfl ht rfl) Evl.ev_c Evl.rv_I0)) (fun hb H1 e1 => ?_) (fun hb H1 e1 => ?_)
    · refine Evl.q_asg (ev_int (tubAt (j := 2) rfl (e1 _ _ ht) rfl)) fun H2 e2 => ?_
      refine Evl.q_setL (l := t) (j := 2) (e2 _ _ (e1 _ _ ht)) (Evl.ev_op (Evl.ev_var rfl) (Evl.ev_var rfl) (Evl.rv_I ⟨by omega, by omega⟩)) (Evl.ev_var rfl) Evl.ev_c (by show 2 < 3; omega) fun H3 e3 => ?_
      refine Evl.s_ret (Evl.ev_op (ev_int (Evl.ev_var rfl)) (Evl.ev_var rfl) (Evl.rv_I (by omega))) fun H4 e4 => ?_
      have e13 := (e1.trans e2).trans e3
      refine q _ _ (fmod_pos hm1).1 (fmod_pos hm1).2 (((kept_ex e13).trans (Kept.upd t H3 _)).trans (kept_ex e4)) (Tub.ex ?_ e4)
      exact ⟨cs, turn, rest.fdiv many, upd_same, Kept.upd t H3 _ _ _ hct (e13 _ _ hc), hct, hcl, hu0, by omega, fdiv_pos hr0 hm1⟩
    · refine Evl.q_asg (tubAt (j := 1) rfl (e1 _ _ ht) rfl) fun H2 e2 => ?_
      refine Evl.q_setL (l := t) (j := 1) (e2 _ _ (e1 _ _ ht)) (Evl.ev_op (Evl.ev_var rfl) Evl.ev_c Evl.rv_I0) (Evl.ev_var rfl) Evl.ev_c (by show 1 < 3; omega) fun H3 e3 => ?_
      have e13 := (e1.trans e2).trans e3
      have k3 : Kept t H (upd H3 t (.lst [.ref c, .int (turn + 1), .int rest])) := (kept_ex e13).trans (Kept.upd t H3 _)
      have h3 : (upd H3 t (.lst [.ref c, .int (turn + 1), .int rest])) t = some (.lst [.ref c, .int (turn + 1), .int rest]) := upd_same
      show tSeq _ _ _ _ (upd H3 t (.lst [.ref c, .int (turn + 1), .int rest]))
      generalize upd H3 t (.lst [.ref c, .int (turn + 1), .int rest]) = H3' at k3 h3 ⊢
      have hc3 : H3' c = some (.lst (cs.map V.int)) := k3 _ _ hct hc
      obtain ⟨cell, z1, z2⟩ := cell_at cs turn (109147 * turn + 8221) hu0
      refine Evl.q_asg (Evl.ev_op (Evl.ev_op Evl.ev_c (Evl.ev_var rfl) (Evl.rv_I (.inl ⟨by omega, by omega⟩))) Evl.ev_c Evl.rv_I0) fun H4 e4 => ?_
      refine Evl.q_ifAsg (b := !cs.isEmpty) (v := .int cell) (Evl.et_test (ev_neNil (tubAt (j := 0) rfl (e4 _ _ h3) rfl) (Evl.sq_of (e4 _ _ hc3))))
        (fun hb => ?_) (fun hb => ?_) fun H5 e5 => ?_
      · have hce : cs.isEmpty = false := by
          cases hq : cs.isEmpty with
          | true => rw [hq] at hb; cases hb
          | false => rfl
        have hne : ((cs.map V.int).length : Int) ≠ 0 := by
          rw [List.length_map]
          cases cs with
          | nil => cases hce
          | cons x r => rw [List.length_cons]; omega
        exact Evl.ev_op (tubAt (j := 0) rfl (e4 _ _ h3) rfl) (Evl.ev_op (ev_int (Evl.ev_var rfl)) (Evl.ev_len (tubAt (j := 0) rfl (e4 _ _ h3) rfl) (Evl.sq_of (e4 _ _ hc3))) (Evl.rv_I hne)) (Evl.rv_ixL (Evl.sq_of (e4 _ _ hc3)) (z1 hce))
      · have hce : cs.isEmpty = true := by
          cases hq : cs.isEmpty with
          | true => rfl
          | false => rw [hq] at hb; cases hb
        rw [z2 hce]
        rfl
      have e35 := e4.trans e5
      have k5 : Kept t H H5 := k3.trans (kept_ex e35)
      have h5 := e35 _ _ h3
      have hc5 := e35 _ _ hc3
      clear e4 e5 e35 h3 hc3 k3 e1 e2 e3 e13
      refine Evl.q_when (Evl.et_and (Evl.et_test (Evl.ev_op (Evl.ev_var rfl) (Evl.ev_len (tubAt (j := 0) rfl h5 rfl) (Evl.sq_of hc5)) Evl.rv_I0)) fun _ => Evl.et_test (Evl.ev_op (ev_abs (Evl.ev_var rfl)) (Evl.ev_op Evl.ev_c Evl.ev_c (Evl.rv_I ⟨by decide, by decide, by decide⟩)) Evl.rv_I0)) (fun hb H6 e6 => ?_) (fun hb H6 e6 => ?_)
      · have hb2 := (Bool.and_eq_true_iff.mp hb).2
        have hbig : (10 : Int) ^ 18 ≤ (if cell < 0 then -cell else cell) := of_decide_eq_true hb2
        refine Evl.q_asg (Evl.ev_op (Evl.ev_op Evl.ev_c (Evl.ev_op (ev_abs (ev_int (Evl.ev_var rfl))) (Evl.ev_op Evl.ev_c Evl.ev_c (Evl.rv_I ⟨by decide, by decide, by decide⟩)) Evl.rv_I0) (Evl.rv_I (.inl ⟨by decide, by decide⟩))) (ev_intB (Evl.ev_op (Evl.ev_var rfl) Evl.ev_c Evl.rv_I0)) Evl.rv_I0) fun H7 e7 => ?_
        have hr2 : (0 : Int) ≤ 2 * ((if cell < 0 then -cell else cell) - 10 ^ (18 : Int).toNat) + (if decide (cell < 0) = true then 1 else 0) := by
          have e18 : (18 : Int).toNat = 18 := rfl
          rw [e18]
          split <;> omega
        generalize (2 * ((if cell < 0 then -cell else cell) - 10 ^ (18 : Int).toNat) + (if decide (cell < 0) = true then 1 else 0) : Int) = rest2 at hr2 ⊢
        refine Evl.q_setL (l := t) (j := 2) (e7 _ _ (e6 _ _ h5)) (Evl.ev_op (Evl.ev_var rfl) (Evl.ev_var rfl) (Evl.rv_I ⟨by omega, by omega⟩)) (Evl.ev_var rfl) Evl.ev_c (by show 2 < 3; omega) fun H8 e8 => ?_
        refine Evl.s_ret (Evl.ev_op (ev_int (Evl.ev_var rfl)) (Evl.ev_var rfl) (Evl.rv_I (by omega))) fun H9 e9 => ?_
        have e68 := (e6.trans e7).trans e8
        refine q _ _ (fmod_pos hm1).1 (fmod_pos hm1).2 (((k5.trans (kept_ex e68)).trans (Kept.upd t H8 _)).trans (kept_ex e9)) (Tub.ex ?_ e9)
        exact ⟨cs, turn + 1, rest2.fdiv many, upd_same, Kept.upd t H8 _ _ _ hct (e68 _ _ hc5), hct, hcl, by omega, by omega, fdiv_pos hr2 hm1⟩
      · have c1 := fmod_pos (a := cell) (b := 2147483563) (by decide)
        refine Evl.q_asg (Evl.ev_op (ev_int (Evl.ev_op (Evl.ev_op (Evl.ev_op (Evl.ev_op (ev_int (Evl.ev_var rfl)) Evl.ev_c (Evl.rv_I (by decide))) (Evl.ev_op Evl.ev_c (Evl.ev_var rfl) (Evl.rv_I (.inl ⟨by decide, by decide⟩))) Evl.rv_I0) Evl.ev_c Evl.rv_I0) Evl.ev_c (Evl.rv_I ⟨by decide, by decide, mix_a c1.1 (by omega) hu0 turnS⟩))) Evl.ev_c (Evl.rv_I (by decide))) fun H7 e7 => ?_
        have m1 := fmod_pos (a := (cell.fmod 2147483563 + 85229 * turn + 8221) ^ (5 : Int).toNat) (b := 2147483549) (by decide)
        generalize ((cell.fmod 2147483563 + 85229 * turn + 8221) ^ (5 : Int).toNat).fmod 2147483549 = mx at m1 ⊢
        refine Evl.q_asg (Evl.ev_op (ev_int (Evl.ev_op (Evl.ev_op (Evl.ev_op (Evl.ev_op (Evl.ev_var rfl) (Evl.ev_op (Evl.ev_op Evl.ev_c (Evl.ev_var rfl) (Evl.rv_I (.inl ⟨by decide, by decide⟩))) Evl.ev_c Evl.rv_I0) (Evl.rv_I (.inl ⟨by omega, by omega⟩))) (Evl.ev_op (Evl.ev_op Evl.ev_c (Evl.ev_var rfl) (Evl.rv_I (.inl ⟨by decide, by decide⟩))) (Evl.ev_var rfl) (Evl.rv_I (.inl ⟨by omega, by omega⟩))) Evl.rv_I0) Evl.ev_c Evl.rv_I0) Evl.ev_c (Evl.rv_I ⟨by decide, by decide, mix_b m1.1 (by omega) hu0 turnS⟩))) Evl.ev_c (Evl.rv_I (by decide))) fun H8 e8 => ?_
        refine Evl.s_ret (Evl.ev_op (ev_int (Evl.ev_op (Evl.ev_var rfl) Evl.ev_c (Evl.rv_I ⟨by decide, by decide⟩))) (Evl.ev_var rfl) (Evl.rv_I (by omega))) fun H9 e9 => ?_
        have e69 := ((e6.trans e7).trans e8).trans e9
        exact q _ _ (fmod_pos hm1).1 (fmod_pos hm1).2 (k5.trans (kept_ex e69)) ⟨cs, turn + 1, rest, e69 _ _ h5, e69 _ _ hc5, hct, hcl, by omega, by omega, hr0⟩
end

theorem scPick : FnScope ["cord", "some"] ["cord", "some"] (defScope sPick) := ⟨rfl, rfl, rfl, by decide +kernel, rfl, by decide +kernel, by decide +kernel⟩
theorem scTub : FnScope ["script", "cell"] ["script"] (defScope sTub) := ⟨rfl, rfl, rfl, by decide +kernel, rfl, by decide +kernel, by decide +kernel⟩
/-- an item at a drawn place -/
theorem at_drawn {xs : List V} {r : Int} (h0 : 0 ≤ r) (h1 : r < (xs.length : Int)) : ∃ (j : Nat) (v : V), xs[j]? = some v ∧ atI xs r = some v := by
  obtain ⟨j, rfl⟩ : ∃ j : Nat, r = (j : Int) := ⟨r.toNat, by omega⟩
  have hj : j < xs.length := by omega
  exact ⟨j, xs[j], List.getElem?_eq_getElem hj, atI_nat (List.getElem?_eq_getElem hj)⟩
def spPick (K : PySem.W.Frag) : Sp := fun vs H Q _ => ∃ (t c l : Addr) (xs : List V) (n : Nat), vs = [.ref t, .ref l] ∧ Tub H t c n ∧ n < 1000000 ∧ l ≠ t ∧ SqL K H l xs ∧ 1 ≤ xs.length ∧ xs.length ≤ 10000 ∧
  ∀ (j : Nat) (v : V) (H' : Hp), xs[j]? = some v → Kept t H H' → Tub H' t c (n + 1) → Q v H'
/-- the drawer as it is made: new -/
def spTub (K : PySem.W.Frag) : Sp := fun vs H Q _ => ∃ (a : Addr) (ns : List Int), vs = [.ref a] ∧ SqL K H a (ns.map V.int) ∧ ns.length ≤ 1000 ∧ ∀ t c H', H t = none → H c = none → Same H H' → Tub H' t c 0 → Q (.ref t) H'
theorem given_all {α : Type} (ns : List α) (d : α) (f : α → V) : Evl.given ns.length (fun _ => true) (fun i => f (ns.getD i d)) = ns.map f := by
  unfold Evl.given
  rw [List.filter_eq_self.mpr (fun _ _ => rfl)]
  refine List.ext_getElem (by simp) fun i h1 h2 => ?_
  have h3 : i < ns.length := by simpa using h2
  simp [List.getD_eq_getElem?_getD, h3]
theorem erase_map : ∀ (l : List Int) (j : Nat), (l.map V.int).eraseIdx j = (l.eraseIdx j).map V.int
  | [], j => by simp
  | _ :: _, 0 => rfl
  | a :: r, j + 1 => by
    have ih := erase_map r j
    simp [ih]
/-! ### going on behind an argument, a list made, a call -/
theorem ret_lst {t : TA} {D : Ends} {σ : L2.St} {H : Hp} (h : t σ H fun xs H1 => xs.length ≤ sizeLine ∧ ∀ p, H1 p = none → D.rt (.ref p) (upd H1 p (.lst xs))) : tRet (tLst t) D σ H := h
theorem go_l {te : TE} {σ : L2.St} {H : Hp} {Q : VK} {xs : List V} (h : Evl.EvL te σ H xs) (k : ∀ p H1, H p = none → Evl.Ex H H1 → H1 p = some (.lst xs) → Q (.ref p) H1) : te σ H Q := h H (Evl.Ex.refl H) Q k
theorem go_v {te : TE} {σ : L2.St} {H : Hp} {Q : VK} {v : V} (h : Evl.Ev te σ H v) (k : ∀ H1, Evl.Ex H H1 → Q v H1) : te σ H Q := h H (Evl.Ex.refl H) Q k
theorem cons_l {ta : TE} {tr : TA} {σ : L2.St} {H : Hp} {Q : List V → Hp → Prop} {xs : List V} (h : Evl.EvL ta σ H xs) (k : ∀ p H1, H p = none → Evl.Ex H H1 → H1 p = some (.lst xs) → tr σ H1 fun vs H2 => Q (.ref p :: vs) H2) : tCons ta tr σ H Q := h H (Evl.Ex.refl H) _ k
theorem cons_v {ta : TE} {tr : TA} {σ : L2.St} {H : Hp} {Q : List V → Hp → Prop} {v : V} (h : Evl.Ev ta σ H v) (k : ∀ H1, Evl.Ex H H1 → tr σ H1 fun vs H2 => Q (v :: vs) H2) : tCons ta tr σ H Q := h H (Evl.Ex.refl H) _ k
theorem et_yes {σ : L2.St} {H : Hp} : Evl.EvT tYes σ H true := fun H1 _ _ q => q H1 (Evl.Ex.refl H1)
theorem cut60 (xs : List V) : cutV xs none (some 61) = xs.take 61 := by
  unfold cutV
  rw [HT.sIx_none, show HT.sIx xs.length xs.length (some 61) = min 61 xs.length from HT.sIx_nat _ _ 61, List.drop_zero, Nat.sub_zero]
  by_cases h : 61 ≤ xs.length
  · rw [Nat.min_eq_left h]
  · rw [Nat.min_eq_right (by omega), List.take_length, List.take_of_length_le (by omega)]
section
variable {P : Program} {w : World} {K : PySem.W.Frag} {mg : Str → Option Value} {base : Heap}
theorem ok_pick {f fS : Addr} {fd fdS : FuncData} {k : Nat} (F : Fun K "_law_pick" "_law_pick" sPick f fd) (FS : Fun K "_law_ply" "_law_ply" sScoop fS fdS) (GS : FnOk P w K mg base CX0 k fS fdS ["cord", "many"] spScoop) (bS : Binds K fdS ["cord", "many"] [])
    (gS : mg "_law_ply" = some (.ref fS)) (mlen : mg "len" = none) : FnOk P w K mg base CX0 (k + 1) f fd ["cord", "some"] (spPick K) := by
  refine F.ok scPick (fun vs H Q E h => ?_) (fun cdv A outer s H vs Q E hr h => ?_)
  · obtain ⟨t, c, l, xs, n, rfl, _⟩ := h
    rfl
  · obtain ⟨t, c, l, xs, n, rfl, hT, hn, hlt, hS, h1, h2, q⟩ := h
    refine ⟨_, pss_one (ps_ret (pe_ix ix_list (pv 1) (pe_call GS hr (by rfl) gS FS.kp bS .nil pass0 (pa_cons (pv 0) (pa_cons (pe_callB call_len_seq (by rfl) mlen PySem.boot_len (pa_cons (pv 1) pa_nil)) pa_nil))) (fun _ _ => rfl))), ?_⟩
    refine ⟨.ref l, rfl, .ref t, rfl, .ref l, rfl, l, xs, rfl, .inl hS, t, c, (xs.length : Int), n, rfl, hT, by omega, by omega, by omega, fun r H' r0 r1 hk hT' => ?_⟩
    obtain ⟨j, v, hj, ha⟩ := at_drawn r0 r1
    exact ⟨l, xs, r, v, rfl, rfl, hk.seq hlt hS, ha, q j v H' hj hk hT'⟩
theorem ok_tub {f : Addr} {fd : FuncData} {k : Nat} (F : Fun K "_law_cord" "_law_cord" sTub f fd) (mint : mg "int" = none) : FnOk P w K mg base CX0 (k + 1) f fd ["script"] (spTub K) := by
  refine F.ok scTub (fun vs H Q E h => ?_) (fun cdv A outer s H vs Q E hr h => ?_)
  · obtain ⟨a, ns, rfl, _⟩ := h
    rfl
  · obtain ⟨a, ns, rfl, hS, hl, q⟩ := h
    have nd := scTub.nd
    refine ⟨_, pss_one (ps_ret (pe_lst (pa_cons (pe_lc (own := [("cell", 1)]) (g := gName 1) (tt := tYes) rfl nd (pi_list (pe_slice sl_list (pv 0) po_none (po_some pe_int))) (blkOk_by (N := ["script", "cell"]) (sc := defScope sTub) (by decide +kernel)) (fun _ _ _ _ _ => pg_name (i := 1) nd rfl (Or.inl rfl)) (fun _ _ _ _ _ => pts_nil) (fun _ _ _ _ _ => pe_callTy call_int1 (by rfl) mint (by decide +kernel) (pa_cons (pv 1) pa_nil))) (pa_cons pe_int (pa_cons pe_int pa_nil))))), ?_⟩
    have e0 : cutV (ns.map V.int) none (some 61) = (ns.take 61).map V.int := by rw [cut60, List.map_take]
    refine ret_lst (cons_l (Evl.el_lcNL (K := K) (H := H) (j := 1) (xs := (ns.take 61).map V.int) (fun _ => true) (fun i => V.int ((ns.take 61).getD i 0)) ?_ ?_ ?_ ?_ ?_) (fun p H1 hp e1 h1 => ?_))
    · rw [← e0]
      exact Evl.el_sl (Evl.ev_var rfl) Evl.eo_none (Evl.eo_some Evl.ev_c) hS
    · rw [List.length_map, List.length_take]
      omega
    · exact fun x => rfl
    · exact fun i x H1 _ _ => et_yes
    · intro i x H1 _ hx _
      have hx2 : x = V.int ((ns.take 61).getD i 0) := by
        rw [List.getElem?_map] at hx
        cases hz : (ns.take 61)[i]? with
        | none => rw [hz] at hx; cases hx
        | some z =>
          rw [hz] at hx
          rw [List.getD_eq_getElem?_getD, hz]
          exact (Option.some.inj hx).symm
      subst hx2
      exact ev_int (Evl.ev_var rfl)
    · rw [List.length_map, given_all (ns.take 61) 0 V.int] at h1
      refine ⟨by show 3 ≤ sizeLine; decide, fun t ht => ?_⟩
      refine q t p _ (Evl.fresh_back e1 ht) hp (fun b o hb => ?_) ⟨ns.take 61, 0, 0, upd_same, ?_, ne_of_none h1 ht, by rw [List.length_take]; omega, Int.le_refl _, Int.le_refl _, Int.le_refl _⟩
      · rw [upd_ne (ne_of_none (e1 _ _ hb) ht)]
        exact e1 _ _ hb
      · rw [upd_ne (ne_of_none h1 ht)]
        exact h1
end

end P51
end S_Tb
section S_Gm
namespace W48
/-- the signs at i and at half + i are alike -/
def M (ws : List Int) (half i : Nat) : Prop := ws.getD (half + i) 0 = ws.getD i 0
instance (ws : List Int) (half i : Nat) : Decidable (M ws half i) := by unfold M; infer_instance
/-- a repeat: half signs from begin on, and those that follow -/
def Rep (ws : List Int) (b h : Nat) : Prop := 1 ≤ h ∧ b + 2 * h ≤ ws.length ∧ ∀ j, j < h → M ws h (b + j)
/-- how many alike signs end at i -/
def run (ws : List Int) (half : Nat) : Nat → Nat
  | 0 => 0
  | i + 1 => if M ws half i then run ws half i + 1 else 0
theorem run_ge (ws : List Int) (half : Nat) : ∀ i h, h ≤ run ws half i ↔ (h ≤ i ∧ ∀ j, j < h → M ws half (i - h + j))
  | 0, h => by
    constructor
    · intro e
      have e0 : h = 0 := Nat.le_zero.mp e
      subst e0
      exact ⟨Nat.le_refl _, fun j hj => absurd hj (Nat.not_lt_zero _)⟩
    · exact fun e => e.1
  | i + 1, h => by
    rw [run]
    by_cases m : M ws half i
    · rw [if_pos m]
      cases h with
      | zero => exact ⟨fun _ => ⟨Nat.zero_le _, fun j hj => absurd hj (Nat.not_lt_zero _)⟩, fun _ => Nat.zero_le _⟩
      | succ h =>
        rw [Nat.add_le_add_iff_right, run_ge ws half i h, Nat.add_le_add_iff_right]
        refine and_congr_right fun hi => ?_
        have e : i + 1 - (h + 1) = i - h := by omega
        rw [e]
        constructor
        · intro a j hj
          by_cases q : j < h
          · exact a j q
          · have : i - h + j = i := by omega
            rw [this]
            exact m
        · exact fun a j hj => a j (by omega)
    · rw [if_neg m]
      cases h with
      | zero => exact ⟨fun _ => ⟨Nat.zero_le _, fun j hj => absurd hj (Nat.not_lt_zero _)⟩, fun _ => Nat.zero_le _⟩
      | succ h =>
        constructor
        · intro e; omega
        · rintro ⟨a, b⟩
          have := b h (by omega)
          rw [show i + 1 - (h + 1) + h = i by omega] at this
          exact absurd this m
theorem run_lt {ws : List Int} {half m : Nat} (h1 : 1 ≤ half) (h : ∀ i, i < m → run ws half (i + 1) ≠ half) : ∀ i, i ≤ m → run ws half i < half
  | 0, _ => by rw [run]; exact h1
  | i + 1, hi => by
    have a := run_lt h1 h i (by omega)
    have b := h i (by omega)
    have c : run ws half (i + 1) ≤ run ws half i + 1 := by
      rw [run]
      split <;> omega
    omega
/-- no repeat of this half ends till here -/
theorem no_rep {ws : List Int} {half m : Nat} (h1 : 1 ≤ half) (h : ∀ i, i < m → run ws half (i + 1) ≠ half) {b : Nat} (hb : b + half ≤ m) : ¬ ∀ j, j < half → M ws half (b + j) := fun a => by
  have r := run_lt h1 h (b + half) hb
  have := (run_ge ws half (b + half) half).mpr ⟨by omega, fun j hj => by rw [show b + half - half + j = b + j by omega]; exact a j hj⟩
  omega
/-- what first_begin answers -/
def Fb (ws : List Int) (half : Nat) (r : Option Nat) : Prop := match r with
  | none => ∀ b, ¬ Rep ws b half
  | some b => Rep ws b half ∧ ∀ b', b' < b → ¬ Rep ws b' half
theorem fb_none {ws : List Int} {half : Nat} (h1 : 1 ≤ half) (h : ∀ i, i < ws.length - half → run ws half (i + 1) ≠ half) : Fb ws half none := fun b hb => no_rep h1 h (b := b) (by have := hb.2.1; omega) hb.2.2
theorem fb_some {ws : List Int} {half i : Nat} (h1 : 1 ≤ half) (hi : i < ws.length - half) (h : ∀ k, k < i → run ws half (k + 1) ≠ half) (e : run ws half (i + 1) = half) : half ≤ i + 1 ∧ Fb ws half (some (i + 1 - half)) := by
  have g := (run_ge ws half (i + 1) half).mp (by omega)
  refine ⟨g.1, ⟨h1, by omega, g.2⟩, fun b' hb hr => no_rep h1 (m := i) h (b := b') (by omega) hr.2.2⟩
/-- the first of all repeats, by begin, then by half -/
def Least (ws : List Int) (r : Option (Nat × Nat)) : Prop := match r with
  | none => ∀ b h, ¬ Rep ws b h
  | some (b, h) => Rep ws b h ∧ ∀ b' h', Rep ws b' h' → b < b' ∨ (b = b' ∧ h ≤ h')
theorem least_uniq {ws : List Int} {r s : Option (Nat × Nat)} (hr : Least ws r) (hs : Least ws s) : r = s := by
  match r, s, hr, hs with
  | none, none, _, _ => rfl
  | none, some (b, h), hr, hs => exact absurd hs.1 (hr b h)
  | some (b, h), none, hr, hs => exact absurd hr.1 (hs b h)
  | some (b, h), some (b', h'), hr, hs =>
    have a := hr.2 b' h' hs.1
    have c := hs.2 b h hr.1
    have e1 : b = b' := by omega
    have e2 : h = h' := by omega
    rw [e1, e2]
/-- slices alike: a repeat -/
theorem slices {ws : List Int} {b h : Nat} (h1 : 1 ≤ h) (hl : b + 2 * h ≤ ws.length) : ((ws.drop b).take h = (ws.drop (b + h)).take h) ↔ Rep ws b h := by
  have at1 : ∀ j, j < h → ((ws.drop b).take h)[j]? = some (ws.getD (b + j) 0) := fun j hj => by
    rw [List.getElem?_take_of_lt hj, List.getElem?_drop, List.getD_eq_getElem?_getD, List.getElem?_eq_getElem (by omega)] <;> rfl
  have at2 : ∀ j, j < h → ((ws.drop (b + h)).take h)[j]? = some (ws.getD (h + (b + j)) 0) := fun j hj => by
    rw [List.getElem?_take_of_lt hj, List.getElem?_drop, List.getD_eq_getElem?_getD, show b + h + j = h + (b + j) by omega, List.getElem?_eq_getElem (by omega)] <;> rfl
  have l1 : ((ws.drop b).take h).length = h := by rw [List.length_take, List.length_drop]; omega
  have l2 : ((ws.drop (b + h)).take h).length = h := by rw [List.length_take, List.length_drop]; omega
  constructor
  · intro e
    refine ⟨h1, hl, fun j hj => ?_⟩
    have := at1 j hj
    rw [e, at2 j hj] at this
    exact Option.some.inj this
  · rintro ⟨_, _, a⟩
    refine List.ext_getElem? fun j => ?_
    by_cases hj : j < h
    · rw [at1 j hj, at2 j hj, a j hj]
    · rw [List.getElem?_eq_none (by omega), List.getElem?_eq_none (by omega)]
end W48
end S_Gm
section S_Tc
namespace P51
open PySem PySem.Spec PyProof.Rows L2 Tl Hk
/-- a value, and whether it is a list of integers within bounds -/
inductive RowR (K : PySem.W.Frag) (H : Hp) (lo hi : V) : V → Bool → Prop where
  | no {x : V} {n : String} (h : Ty7 K H x n) (h1 : n ≠ "list") (h2 : n ≠ "tuple") : RowR K H lo hi x false
  | lst {a : Addr} {xs : List V} (h : SqL K H a xs) (hl : xs.length ≤ 4000) (hi_ : ∀ v ∈ xs, ∃ n, Ty7 K H v n) : RowR K H lo hi (.ref a) (xs.all fun v => wi v lo hi)
  | tup {a : Addr} {xs : List V} (h : SqT K H a xs) (hl : xs.length ≤ 4000) (hi_ : ∀ v ∈ xs, ∃ n, Ty7 K H v n) : RowR K H lo hi (.ref a) (xs.all fun v => wi v lo hi)
theorem RowR.ex {K : PySem.W.Frag} {H H' : Hp} {lo hi x : V} {r : Bool} (h : RowR K H lo hi x r) (e : Evl.Ex H H') : RowR K H' lo hi x r := by
  cases h with
  | no h h1 h2 => exact .no (h.ex e) h1 h2
  | lst h hl hi => exact .lst (Evl.ex_l e h) hl fun v hv => (hi v hv).imp fun n hn => hn.ex e
  | tup h hl hi => exact .tup (Evl.ex_t e h) hl fun v hv => (hi v hv).imp fun n hn => hn.ex e
def spRow (K : PySem.W.Frag) : Sp := fun vs H Q _ => ∃ (x lo hi : V) (r : Bool), vs = [x, lo, hi] ∧ RowR K H lo hi x r ∧ Bnd lo ∧ Bnd hi ∧ ∀ H1, Evl.Ex H H1 → Q (.bl r) H1
def spWord (K : PySem.W.Frag) : Sp := fun vs H Q _ => ∃ (x : V) (r : Bool), vs = [x] ∧ RowR K H (.int 0) .non x r ∧ ∀ H1, Evl.Ex H H1 → Q (.bl r) H1
theorem spv_word {K : PySem.W.Frag} {H : Hp} {x : V} {r : Bool} (h : RowR K H (.int 0) .non x r) : Evl.SpV (spWord K) [x] H (.bl r) := fun H1 e Q q E => ⟨x, r, rfl, h.ex e, q⟩
theorem scRow : FnScope ["value", "least", "most", "item"] ["value", "least", "most"] (defScope sRow) := ⟨rfl, rfl, rfl, by decide +kernel, rfl, by decide +kernel, by decide +kernel⟩
theorem scIsWord : FnScope ["value"] ["value"] (defScope sIsWord) := ⟨rfl, rfl, rfl, by decide +kernel, rfl, by decide +kernel, by decide +kernel⟩
section
variable {P : Program} {w : World} {K : PySem.W.Frag} {mg : Str → Option Value} {base : Heap}
theorem ok_row {f fW fL : Addr} {fd fdW fdL : FuncData} {k : Nat} (F : Fun K "is_row" "is_row" sRow f fd)
    (FW : Fun K "is_within" "is_within" sWithin fW fdW) (GW : FnOk P w K mg base CX0 k fW fdW ["value", "least", "most"] (spWithin K)) (bW : Binds K fdW ["value", "least", "most"] []) (gW : mg "is_within" = some (.ref fW))
    (FL : Fun K "is_list" "is_list" sList fL fdL) (GL : FnOk P w K mg base CX0 k fL fdL ["value"] (spList K)) (bL : Binds K fdL ["value"] []) (gL : mg "is_list" = some (.ref fL)) (mall : mg "all" = none) :
    FnOk P w K mg base CX0 (k + 1) f fd ["value", "least", "most"] (spRow K) := by
  refine F.ok scRow (fun vs H Q E h => ?_) (fun cdv A outer s H vs Q E hr h => ?_)
  · obtain ⟨x, lo, hi, r, rfl, _⟩ := h
    rfl
  · obtain ⟨x, lo, hi, r, rfl, h, hlo, hhi, q⟩ := h
    have nd := scRow.nd
    have isl : ∀ {n : String}, Ty7 K H x n → Evl.Ev (tCall (spList K) [] E0 (tCons (tVar 0) tNil)) (start ["value", "least", "most", "item"] [x, lo, hi]) H (.bl (decide (n = "list") || decide (n = "tuple"))) :=
      fun h7 => Evl.ev_call (Evl.ea_cons (Evl.ev_var rfl) Evl.ea_nil) (spv_list h7)
    have items : ∀ {H1 : Hp} {xs : List V} {i : Nat} {v : V}, Evl.Ex H H1 → (∀ v ∈ xs, ∃ n, Ty7 K H v n) → xs[i]? = some v → Evl.Ev (tCall (spWithin K) [] E0 (tCons (tVar 3) (tCons (tVar 1) (tCons (tVar 2) tNil)))) [none, some lo, some hi, some v] H1 (.bl (wi (xs.getD i .non) lo hi)) :=
      fun {H1 xs i v} e hi' hv => by
        obtain ⟨n, hn⟩ := hi' v (List.mem_of_getElem? hv)
        have ev : xs.getD i .non = v := by rw [List.getD_eq_getElem?_getD, hv]; rfl
        rw [ev]
        exact Evl.ev_call (Evl.ea_cons (Evl.ev_var rfl) (Evl.ea_cons (Evl.ev_var rfl) (Evl.ea_cons (Evl.ev_var rfl) Evl.ea_nil))) (spv_within (hn.ex e) hlo hhi)
    have ebs : ∀ xs : List V, Evl.given xs.length (fun _ => true) (fun i => V.bl (wi (xs.getD i .non) lo hi)) = (xs.map fun v => wi v lo hi).map V.bl := fun xs => by
      rw [given_all xs .non fun v => V.bl (wi v lo hi), List.map_map]
      rfl
    have eall : ∀ xs : List V, (true && (xs.map fun v => wi v lo hi).all id) = xs.all fun v => wi v lo hi := fun xs => by
      rw [Bool.true_and, List.all_map]
      rfl
    cases h with
    | @no x n h7 h1 h2 =>
      refine ⟨_, pss_one (ps_ret (pe_and (pe_call GL hr (by rfl) gL FL.kp bL .nil pass0 (pa_cons (pv 0) pa_nil)) (pe_one (pe_callB (cr_all rfl) (by rfl) mall (by decide +kernel) (pa_cons
          (pe_lc (own := [("item", 3)]) (g := gName 3) (tt := tYes) rfl nd (pi_list (pv 0)) (blkOk_by (N := ["value", "least", "most", "item"]) (sc := defScope sRow) (by decide +kernel)) (fun _ _ _ _ _ => pg_name (i := 3) nd rfl (Or.inl rfl)) (fun _ _ _ _ _ => pts_nil)
            (fun _ _ _ _ _ => pe_call GW (hr) (by rfl) gW FW.kp bW .nil pass0 (pa_cons (pv 3) (pa_cons (pv 1) (pa_cons (pv 2) pa_nil))))) pa_nil))))), ?_⟩
      have eb : (decide (n = "list") || decide (n = "tuple")) = false := by simp [h1, h2]
      exact Evl.s_ret (Evl.ev_is (Evl.ev_andV (b := false) (isl h7) fun z => by rw [eb] at z; cases z) (by rw [eb] <;> rfl)) q
    | @lst a xs hS hl hi0 =>
      refine ⟨_, pss_one (ps_ret (pe_and (pe_call GL hr (by rfl) gL FL.kp bL .nil pass0 (pa_cons (pv 0) pa_nil)) (pe_one (pe_callB (cr_all rfl) (by rfl) mall (by decide +kernel) (pa_cons
          (pe_lc (own := [("item", 3)]) (g := gName 3) (tt := tYes) rfl nd (pi_list (pv 0)) (blkOk_by (N := ["value", "least", "most", "item"]) (sc := defScope sRow) (by decide +kernel)) (fun _ _ _ _ _ => pg_name (i := 3) nd rfl (Or.inl rfl)) (fun _ _ _ _ _ => pts_nil)
            (fun _ _ _ _ _ => pe_call GW (hr) (by rfl) gW FW.kp bW .nil pass0 (pa_cons (pv 3) (pa_cons (pv 1) (pa_cons (pv 2) pa_nil))))) pa_nil))))), ?_⟩
      refine Evl.s_ret (Evl.ev_is (Evl.ev_andV (isl (.lst hS)) fun _ => ev_allN (bs := xs.map fun v => wi v lo hi) ?_) (congrArg V.bl (eall xs))) q
      rw [← ebs]
      exact Evl.el_lcL (fun _ => true) _ (Evl.ev_var rfl) hS (by omega) (fun _ => rfl) (fun _ _ _ _ _ => et_yes) fun i v H1 e1 hv _ => items e1 hi0 hv
    | @tup a xs hS hl hi0 =>
      refine ⟨_, pss_one (ps_ret (pe_and (pe_call GL hr (by rfl) gL FL.kp bL .nil pass0 (pa_cons (pv 0) pa_nil)) (pe_one (pe_callB (cr_all rfl) (by rfl) mall (by decide +kernel) (pa_cons
          (pe_lc (own := [("item", 3)]) (g := gName 3) (tt := tYes) rfl nd (pi_tup (pv 0)) (blkOk_by (N := ["value", "least", "most", "item"]) (sc := defScope sRow) (by decide +kernel)) (fun _ _ _ _ _ => pg_name (i := 3) nd rfl (Or.inl rfl)) (fun _ _ _ _ _ => pts_nil)
            (fun _ _ _ _ _ => pe_call GW (hr) (by rfl) gW FW.kp bW .nil pass0 (pa_cons (pv 3) (pa_cons (pv 1) (pa_cons (pv 2) pa_nil))))) pa_nil))))), ?_⟩
      refine Evl.s_ret (Evl.ev_is (Evl.ev_andV (isl (.tup hS)) fun _ => ev_allN (bs := xs.map fun v => wi v lo hi) ?_) (congrArg V.bl (eall xs))) q
      rw [← ebs]
      exact el_lcT (fun _ => true) _ (Evl.ev_var rfl) hS (by omega) (fun _ => rfl) (fun _ _ _ _ _ => et_yes) fun i v H1 e1 hv _ => items e1 hi0 hv
theorem ok_isWord {f fR : Addr} {fd fdR : FuncData} {k : Nat} (F : Fun K "is_word" "is_word" sIsWord f fd)
    (FR : Fun K "is_row" "is_row" sRow fR fdR) (GR : FnOk P w K mg base CX0 k fR fdR ["value", "least", "most"] (spRow K)) (bR : Binds K fdR ["value", "least", "most"] []) (gR : mg "is_row" = some (.ref fR)) :
    FnOk P w K mg base CX0 (k + 1) f fd ["value"] (spWord K) := by
  refine F.ok scIsWord (fun vs H Q E h => ?_) (fun cdv A outer s H vs Q E hr h => ?_)
  · obtain ⟨x, r, rfl, _⟩ := h
    rfl
  · obtain ⟨x, r, rfl, h, q⟩ := h
    refine ⟨_, pss_one (ps_ret (pe_call GR hr (by rfl) gR FR.kp bR .nil pass0 (pa_cons (pv 0) (pa_cons pe_int (pa_cons pe_non pa_nil))))), ?_⟩
    exact Evl.s_ret (Evl.ev_call (Evl.ea_cons (Evl.ev_var rfl) (Evl.ea_cons Evl.ev_c (Evl.ea_cons Evl.ev_c Evl.ea_nil))) fun H1 e Q q E => ⟨x, .int 0, .non, r, rfl, h.ex e, trivial, trivial, q⟩) q
end
end P51
end S_Tc
section S_Wm
namespace Hk
open PySem PySem.Spec PyProof.Rows L2 Tl
/-- a set without items, as set() lays it -/
abbrev zO (w : World) : Obj := { cls := .type "set", dict := none, data := .set #[] 0 (.fresh 0 0 (!w.params.followText "set-order")) }
/-- what comes of set(l), l a list of these ints -/
def Got (w : World) (s : Shared) (ns : List Int) (r : Value) (s2 : Shared) : Prop := r = .ref s.heap.objs.size ∧ ∃ (h' : Heap) (tk c : Nat), s2 = { s with heap := h', toks := tk } ∧ SetR w h' s.heap.objs.size (fun j => decide (j ∈ ns)) c ∧ c ≤ ns.length ∧ ∀ b o, s.heap.get? b = some o → h'.get? b = some o
section
variable {P : Program} {w : World} {A : Around} {E : Value → Shared → Prop} {s : Shared}
set_option maxHeartbeats 3200000 in
theorem fill_list {l : Addr} {its : Array Value} {ns : List Int} (a0 : A.handled = none) (hl : s.heap.IsList l its) (hi : IntsAre its.toList ns) (hb : ns.length + 1 < scanBound) :
    codeAny (model P w) A (.call (.builtin "set.__init__") ⟨[.ref s.heap.objs.size, .ref l], []⟩) (wants (fun r s2 => r = .none ∧ Got w s ns (.ref s.heap.objs.size) s2) E) { s with heap := s.heap.push (zO w) } := by
  have n1 : its.size = ns.length := by
    have z := IntsAre.length hi
    rwa [Array.length_toList] at z
  have g0 : (s.heap.push (zO w)).get? s.heap.objs.size = some (zO w) := Heap.get?_push_size _ rfl
  refine codeAny_call_builtin (R := wants (fun r s2 => r = .none ∧ Got w s ns (.ref s.heap.objs.size) s2) E) F.called_set.init.plain F.entry_set_init (check_set_init_1 (s := { s with heap := s.heap.push (zO w) }) ⟨_, g0, rfl⟩ ?_)
  obtain ⟨⟨oc, od, ob, osl⟩, o1, o2, nl, o3⟩ := hl
  simp only at o2 o3
  subst o2
  subst o3
  have g1 := Heap.get?_push_of_some (zO w) o1
  have hls : (s.heap.push (zO w)).IsList l its := ⟨_, g1, rfl, nl, rfl⟩
  have k1 := F.sub_list_set
  have k2 := F.sub_list_frozenset
  have k3 : (Value.type "list" == Value.type "dict") = false := by decide
  unfold Builtin.«set.__init__» noKeywords Builtin.Frozenset.updateFrom
  generalize hPI : pyIter = PI
  wp_walk
  subst hPI
  refine wpAny_pyIter_list hls (wpAny_bind (wpAny_runValue ?_))
  have lS : l < s.heap.objs.size := Heap.lt_size o1
  have sz : (s.heap.push (zO w)).objs.size = s.heap.objs.size + 1 := Heap.size_push ..
  have a3 : A.in1.in1.handled = none := by simp [a0]
  have nI : l ≠ (s.heap.push (zO w)).objs.size := by
    rw [sz]
    exact Nat.ne_of_lt (Nat.lt_succ_of_lt lS)
  have nS : s.heap.objs.size ∉ [(s.heap.push (zO w)).objs.size, l] := fun m => by
    rw [sz] at m
    rcases List.mem_cons.mp m with z | z
    · exact Nat.ne_of_lt (Nat.lt_succ_self _) z
    · exact Nat.ne_of_gt lS (List.mem_singleton.mp z)
  have val : ∀ (i : Nat) (v : Value), its[i]? = some v → ∃ k t, ns[i]? = some k ∧ v = .int k t := fun i v hv => by
    have lt : i < ns.length := by rw [← n1]; exact (Array.getElem?_eq_some_iff.mp hv).1
    obtain ⟨t, e⟩ := PyProof.Rows.IntsAre.int_at hi i v (by rw [Array.getElem?_toList]; exact hv)
    exact ⟨ns[i], t, List.getElem?_eq_getElem lt, by rw [e, List.getD_eq_getElem?_getD, List.getElem?_eq_getElem lt] <;> rfl⟩
  refine set_update_ints ((Walks.list a3 _ l nI its).toS) s.heap.objs.size nS ns n1 hb val (its.size - 0) 0 _ (by omega) (Nat.zero_le _) ?z ?z0 ?z1
  case z => exact ⟨⟨_, Heap.get?_push_size _ rfl, rfl, rfl⟩, (hls.push _)⟩
  case z0 => exact ⟨0, Nat.le_refl 0, setR_new_at (Heap.get?_push_of_some _ g0)⟩
  case z1 =>
    intro s' c' hm hc' hS'
    obtain ⟨h', g2, d2, tk', os2⟩ := s'
    obtain rfl : g2 = s.gens := hm.gens
    obtain rfl : d2 = s.drawn := hm.drawn
    obtain rfl : os2 = s.os := hm.os
    show wpAny _ _ _ _ _ _
    refine wpAny_pure ?_
    show wpAny _ _ (ret Value.none) _ _ _
    rw [n1] at hc'
    refine wpAny_pure ⟨rfl, rfl, h', tk', c', rfl, hS', hc', fun b o e => ?_⟩
    have lb : b < s.heap.objs.size := Heap.lt_size e
    refine hm.heap b o (fun m => ?_) (Heap.get?_push_of_some _ (Heap.get?_push_of_some _ e))
    rcases List.mem_cons.mp m with z | z
    · exact Nat.ne_of_lt lb z
    · have z := List.mem_singleton.mp z
      rw [sz] at z
      exact Nat.ne_of_lt (Nat.lt_succ_of_lt lb) z
set_option maxHeartbeats 3200000 in
theorem set_of_list {l : Addr} {its : Array Value} {ns : List Int} {Q : Value → Shared → Prop} (a0 : A.handled = none) (hl : s.heap.IsList l its) (hi : IntsAre its.toList ns) (hb : ns.length + 1 < scanBound)
    (k : ∀ r s2, Got w s ns r s2 → Q r s2) : wpAny (model P w) A (call (.type "set") [.ref l]) Q E s := by
  obtain ⟨c, tl, hmro⟩ := F.called_set.mro
  refine wpAny_call (codeAny_of_tree ?_)
  show wpAny _ _ (callAny (.type "set") _) _ _ _
  refine wpAny_pure ⟨Code.quiet_builtin _ (by decide +kernel), codeAny_builtin F.entry_type_call ?_⟩
  rw [Around.under_plain (weight_type_call_type "set" [.ref l] []) rfl]
  have m1 := F.called_set.made
  have m2 := F.called_set.sub
  have m3 := F.called_set.notType
  have m4 := F.called_set.canCreate
  have m5 := F.typeCall_set_1 (.ref l)
  repeat (any_goals (first | assumption | wp_step))
  refine codeAny_mono (code_set_led1 (.ref l) (E := E) (Q₁ := fun u t => u = .ref s.heap.objs.size ∧ t = { s with heap := s.heap.push (zO w) }) ⟨rfl, rfl⟩) fun r s1 hr => ?_
  match r, hr with
  | .ok (.ret u), hr =>
    obtain ⟨rfl, rfl⟩ := hr
    have g0 : (s.heap.push (zO w)).get? s.heap.objs.size = some (zO w) := Heap.get?_push_size _ rfl
    have hT : Shared.TypeIs { s with heap := s.heap.push (zO w) } (.ref s.heap.objs.size) "set" := ⟨_, g0, rfl⟩
    have m6 := F.called_set.init.lookup
    have m7 := F.called_set.init.bind (.ref s.heap.objs.size)
    repeat (any_goals (first | assumption | wp_step))
    refine codeAny_mono (fill_list (P := P) (w := w) (E := E) a0 hl hi hb) fun r2 s2 h2 => ?_
    match r2, h2 with
    | .ok (.ret u), h2 =>
      obtain ⟨rfl, G⟩ := h2
      repeat (any_goals (first | assumption | wp_step))
      exact k _ _ G
    | .error e, h2 => exact h2
    | .ok .next, h2 => exact h2.elim
    | .ok .brk, h2 => exact h2.elim
    | .ok .cont, h2 => exact h2.elim
  | .error e, hr => exact hr
  | .ok .next, hr => exact hr.elim
  | .ok .brk, hr => exact hr.elim
  | .ok .cont, hr => exact hr.elim
end
/-- set(l) of a list of ints -/
def rSetL (K : PySem.W.Frag) (w : World) : List V → Hp → VK → Prop := fun xs H Q => ∃ (l : Addr) (ns : List Int), xs = [.ref l] ∧ SqL K H l (ns.map V.int) ∧ ns.length ≤ 1000 ∧ ∀ p c, H p = none → c ≤ ns.length → Q (.ref p) (upd H p (SetO w p (fun j => decide (j ∈ ns)) c))
theorem cr_setL {X : Cx} (hc : X.calm = true) : CallR X (.type "set") (rSetL X.K X.w) := by
  intro pins s σ H xs us Q I r h
  obtain ⟨l, ns, rfl, hq, hz, q⟩ := h
  rw [Vals.ref1 r]
  obtain ⟨its, rv, pl, _⟩ := I.list hq
  refine set_of_list (ns := ns) (I.ok.hd hc) pl.isList (by simpa using RZ.intsAre_vals rv) (by unfold scanBound; omega) fun u s2 ⟨e1, h', tk, c, e2, R, hc', kp⟩ => ?_
  subst e1 e2
  have hn : H s.heap.objs.size = none := I.hok.fresh (Nat.le_refl _)
  exact ⟨.ref s.heap.objs.size, _, I.laid (t' := tk) kp (Nat.le_refl _) (setO_new R), rfl, q _ c hn hc'⟩
end Hk
end S_Wm
section S_Wn
namespace Hk
open PySem PySem.Spec PyProof.Rows L2 Tl
/-- the i-th of xs, and what stands while it is walked -/
def YRow (xs : List V) (W : Hp → Prop) : Nat → Hp → V → Hp → Prop := fun i H v H' => H' = H ∧ xs[i]? = some v ∧ W H
section
open Evl
variable {K : PySem.W.Frag} {σ : L2.St} {H : Hp} {te : TE}
theorem ei_rowsL {a : Addr} {xs : List V} {n : Nat} {W : Hp → Prop} (h : Ev te σ H (.ref a)) (hx : SqL K H a xs) (hn : n = xs.length) (hW : ∀ A, Ex H A → W A) : EvI (iList K te) σ H n (YRow xs W) := fun H1 e R k => by
  subst hn
  exact h H1 e _ fun H2 e2 => ⟨a, rfl, ⟨xs, ex_l (e.trans e2) hx⟩, k _ (fun A => SqL K A a xs ∧ W A) H2 e2 (walk_list.mono (fun _ q => q.1) fun i A v A' hi q y => ⟨y.1, y.2, q.2⟩) fun A ab _ => ⟨ex_l ab hx, hW A ab⟩⟩
theorem ei_rowsT {a : Addr} {xs : List V} {n : Nat} {W : Hp → Prop} (h : Ev te σ H (.ref a)) (hx : SqT K H a xs) (hn : n = xs.length) (hW : ∀ A, Ex H A → W A) : EvI (iTup K te) σ H n (YRow xs W) := fun H1 e R k => by
  subst hn
  exact h H1 e _ fun H2 e2 => ⟨a, rfl, ⟨xs, ex_t (e.trans e2) hx⟩, k _ (fun A => SqT K A a xs ∧ W A) H2 e2 (walk_tup.mono (fun _ q => q.1) fun i A v A' hi q y => ⟨y.1, y.2, q.2⟩) fun A ab _ => ⟨ex_t ab hx, hW A ab⟩⟩
theorem ei_rng3 {ta : TA} {i j c : Int} {n : Nat} (h : EvA ta σ H [.int i, .int j, .int c]) (hr : RgC i j c n) : EvI (iRng3 ta) σ H n (YFn fun k => .int (i + (k : Nat) * c)) := fun H1 e R k =>
  h H1 e _ fun H2 e2 => ⟨i, j, c, n, rfl, hr, k _ _ H2 e2 walk_rangeC fun _ _ _ => trivial⟩
end
section
open Evl
variable {K : PySem.W.Frag} {σ : L2.St} {H : Hp}
/-- tuple(list made now) -/
theorem en_tupNL {ta : TE} {L : List V → Hp → Prop} (h : EvNL ta σ H L) : EvN (tCB (fun xs H Q => ∃ p ys, xs = [V.ref p] ∧ ((SqL K H p ys ∧ ∀ l, H l = none → Q (V.ref l) (upd H l (HO.tup ys))) ∨ (SqT K H p ys ∧ Q (V.ref p) H))) (tCons ta tNil)) σ H
    (fun u H' => ∃ t xs, u = .ref t ∧ H' t = some (.tup xs) ∧ L xs H') := fun H1 e Q q =>
  h H1 e _ fun p xs H2 hp e2 h2 hL => ⟨p, xs, rfl, .inl ⟨sq_of h2, fun t ht => q _ _ (e2.trans (Ex.new ht)) fun H3 h3 s3 => ⟨t, xs, rfl, s3 _ _ (fresh_back e2 ht) upd_same, hL H3 h3 fun a o _ ha hb => by
    refine s3 a o ha ?_
    rw [upd_ne (ne_of_none hb ht)]
    exact hb⟩⟩⟩
end
theorem ev_anyN {K : PySem.W.Frag} {ta : TE} {σ : L2.St} {H : Hp} {bs : List Bool} (h : Evl.EvL ta σ H (bs.map V.bl)) : Evl.Ev (tCB (rAny K) (tCons ta tNil)) σ H (.bl (bs.any id)) := fun H1 e Q q =>
  h H1 e _ fun p H2 hp e2 h2 => ⟨p, bs, rfl, Evl.sq_of h2, q H2 e2⟩
/-- a for over what EvI tells; the body may write what is not of the walk -/
theorem s_forI {wi : TI} {g : TG} {tb : TS} {D : Ends} {σ : L2.St} {H B : Hp} {n : Nat} {Y : Nat → Hp → V → Hp → Prop} {s : Nat → L2.St → L2.St} (hw : EvI wi σ B n Y) (aim : Aims g n Y s) (e : Evl.Ex B H) (Pv : Hp → Nat → L2.St → Hp → Prop) (h0 : ∀ H2, Evl.Ex H H2 → Pv H2 0 σ H2)
    (hk : ∀ H2 i σ' H', Evl.Ex H H2 → i ≤ n → Pv H2 i σ' H' → Evl.Ex B H' ∧ Since H H2 H') (hs : ∀ H2 i σ' H' H'', Evl.Ex H H2 → i < n → Pv H2 i σ' H' → Evl.Ex H' H'' → tb { D with nx := Pv H2 (i + 1), ct := Pv H2 (i + 1), bk := D.nx } (s i σ') H'')
    (hd : ∀ H2 σ' H', Evl.Ex H H2 → Pv H2 n σ' H' → D.nx σ' H') : tFor wi g tb D σ H :=
  hw H e _ fun J G H2 e2 w sG => for_it w (Pv H2) (h0 H2 e2) (fun i σ' H' hi p => sG H' (hk H2 i σ' H' e2 hi p).1 (hk H2 i σ' H' e2 hi p).2)
    (fun i x σ' H' H'' hi p y => by
      obtain ⟨ab, k⟩ := aim i σ' H' x H'' hi y
      exact k _ (hs H2 i σ' H' H'' e2 hi p ab)) (fun σ' H' p => hd H2 σ' H' e2 p)
theorem q_forI {wi : TI} {g : TG} {tb tz : TS} {D : Ends} {σ : L2.St} {H B : Hp} {n : Nat} {Y : Nat → Hp → V → Hp → Prop} {s : Nat → L2.St → L2.St} (hw : EvI wi σ B n Y) (aim : Aims g n Y s) (e : Evl.Ex B H) (Pv : Hp → Nat → L2.St → Hp → Prop) (h0 : ∀ H2, Evl.Ex H H2 → Pv H2 0 σ H2)
    (hk : ∀ H2 i σ' H', Evl.Ex H H2 → i ≤ n → Pv H2 i σ' H' → Evl.Ex B H' ∧ Since H H2 H') (hs : ∀ H2 i σ' H' H'', Evl.Ex H H2 → i < n → Pv H2 i σ' H' → Evl.Ex H' H'' → tb { D with nx := Pv H2 (i + 1), ct := Pv H2 (i + 1), bk := tz D } (s i σ') H'')
    (hd : ∀ H2 σ' H', Evl.Ex H H2 → Pv H2 n σ' H' → tz D σ' H') : tSeq (tFor wi g tb) tz D σ H := s_forI (D := { D with nx := tz D }) hw aim e Pv h0 hk hs hd
theorem el_catVN {σ : L2.St} {H : Hp} {ta tb : TE} {m : Addr} {xs ys : List V} (ha : Evl.Ev ta σ H (.ref m)) (hm : H m = some (.lst xs)) (hb : Evl.EvL tb σ H ys) (hz : xs.length + ys.length ≤ 100000) : Evl.EvL (tOp rCat ta tb) σ H (xs ++ ys) := fun H1 e Q q =>
  ha H1 e _ fun H2 e2 => hb H2 (e.trans e2) _ fun p H3 _ e3 h3 => ⟨m, p, xs, ys, rfl, rfl, e3 _ _ (e2 _ _ (e _ _ hm)), h3, Evl.sz_of hz, fun r hr => q r _ (Evl.fresh_back (e2.trans e3) hr) ((e2.trans e3).trans (Evl.Ex.new hr)) upd_same⟩
/-- a, b = a row of two -/
theorem aims_rowT2 {K : PySem.W.Frag} {xs : List V} {n j1 j2 : Nat} {c : Nat → V × V} : Aims (gTup K 2 (gCons (gName j1) (gCons (gName j2) gNil))) n
    (YRow xs fun H => ∀ i v, i < n → xs[i]? = some v → ∃ r, v = .ref r ∧ H r = some (.tup [(c i).1, (c i).2])) (fun i σ => (σ.set j1 (some (c i).1)).set j2 (some (c i).2)) := fun i σ H v H' hi y => by
  obtain ⟨rfl, hv, w⟩ := y
  obtain ⟨r, rfl, hr⟩ := w i v hi hv
  exact ⟨Evl.Ex.refl _, fun Q q => ⟨r, _, rfl, Evl.st_of hr, rfl, _, _, rfl, _, _, rfl, rfl, q⟩⟩
/-- a, b, c = a row of three, a list -/
theorem aims_rowL3 {K : PySem.W.Frag} {xs : List V} {n j1 j2 j3 : Nat} {c : Nat → V × V × V} : Aims (gLst K 3 (gCons (gName j1) (gCons (gName j2) (gCons (gName j3) gNil)))) n
    (YRow xs fun H => ∀ i v, i < n → xs[i]? = some v → ∃ r, v = .ref r ∧ H r = some (.lst [(c i).1, (c i).2.1, (c i).2.2])) (fun i σ => ((σ.set j1 (some (c i).1)).set j2 (some (c i).2.1)).set j3 (some (c i).2.2)) := fun i σ H v H' hi y => by
  obtain ⟨rfl, hv, w⟩ := y
  obtain ⟨r, rfl, hr⟩ := w i v hi hv
  exact ⟨Evl.Ex.refl _, fun Q q => ⟨r, _, rfl, Evl.sq_of hr, rfl, _, _, rfl, _, _, rfl, _, _, rfl, rfl, q⟩⟩
theorem joinL_length (S : List Nat) : ∀ ps : List (List Nat), (TL.joinL S ps).length ≤ (ps.map List.length).sum + ps.length * S.length
  | [] => by unfold TL.joinL; simp
  | [p] => by unfold TL.joinL; simp
  | p :: q :: r => by
    have ih := joinL_length S (q :: r)
    have e : TL.joinL S (p :: q :: r) = p ++ (S ++ TL.joinL S (q :: r)) := rfl
    rw [e, List.length_append, List.length_append, List.map_cons, List.sum_cons, List.length_cons, Nat.add_mul]
    omega
theorem tl_length (s : Str) : (TL.tl s).length = s.length := (TL.len_tl s).symm
theorem join_len (y : Str) (ps : List Str) : (Txt.join y ps).length ≤ (ps.map (·.length)).sum + ps.length * y.length := by
  rw [← tl_length, TL.join_eq, TL.tl_join]
  refine Nat.le_trans (joinL_length _ _) ?_
  rw [List.map_map, List.length_map, tl_length]
  have : (ps.map (List.length ∘ TL.tl)) = ps.map (·.length) := List.map_congr_left fun p _ => tl_length p
  rw [this] <;> exact Nat.le_refl _
end Hk
namespace Hk
open PySem PySem.Spec PyProof.Rows L2 Tl
open Evl
theorem ev_neNilL {K : PySem.W.Frag} {σ : L2.St} {H : Hp} {ta : TE} {cs : List Int} (h : EvL ta σ H (cs.map V.int)) : Ev (tOp (rNeD K) ta (tLst tNil)) σ H (.bl (!cs.isEmpty)) :=
  ev_opLL (ys := []) h (el_lst ea_nil (Nat.zero_le _)) fun p q H1 h1 h2 _ => fun H2 e2 Q k => by
    refine ⟨.list (zD cs), .list [], .lst (sq_of (e2 _ _ h1)) (dp_zD cs), .lst (sq_of (e2 _ _ h2)) .nil, PySem.W.ke_shaped_ints cs, by decide +kernel, ?_⟩
    have e3 : PyData.eqv (.list (zD cs)) (.list []) = cs.isEmpty := by cases cs <;> rfl
    rw [e3]
    exact k H2 (Ex.refl H2)
/-- the heap without one object -/
def but (t : Addr) (H : Hp) : Hp := fun a => if a = t then none else H a
theorem but_le {t : Addr} {H : Hp} : Ex (but t H) H := fun a o h => by
  unfold but at h
  split at h
  · cases h
  · exact h
theorem but_at {t a : Addr} {H : Hp} (h : a ≠ t) : but t H a = H a := if_neg h
/-- a comprehension whose body draws -/
theorem go_lcT {wi : TI} {g : TG} {tt : TT} {te : TE} {vs : List Nat} {n : Nat} {Y : Nat → Hp → V → Hp → Prop} {s : Nat → L2.St → L2.St} {σ : L2.St} {H : Hp} {Q : VK} {t : Addr} {o : HO} (ho : H t = some o)
    (hw : EvI wi σ (but t H) n Y) (aim : Aims g n Y s) (hs : ∀ i, wipe (s i (wipe σ vs)) vs = wipe σ vs) (hn : n ≤ 40000) (R : Nat → List V → Hp → Prop)
    (h0 : ∀ H2, Ex H H2 → R 0 [] H2) (hx : ∀ i acc A B, R i acc A → Ex A B → R i acc B)
    (hu : ∀ i acc A D l l', H D = none → D ≠ t → A D = some (.lst l) → R i acc A → R i acc (upd A D (.lst l')))
    (hst : ∀ i acc A (F1 : V → Hp → Prop) (F2 : Hp → Prop), i < n → (∀ a o, a ≠ t → H a = some o → A a = some o) → acc.length ≤ i → R i acc A →
      (∀ y H4, (∀ a o, a ≠ t → A a = some o → H4 a = some o) → R (i + 1) (acc ++ [y]) H4 → F1 y H4) → (∀ H3, (∀ a o, a ≠ t → A a = some o → H3 a = some o) → R (i + 1) acc H3 → F2 H3) →
      tt (s i (wipe σ vs)) A fun b H3 => if b = true then te (s i (wipe σ vs)) H3 F1 else F2 H3)
    (hd : ∀ D acc A, H D = none → D ≠ t → A D = some (.lst acc) → acc.length ≤ n → (∀ a o, a ≠ t → H a = some o → A a = some o) → R n acc A → Q (.ref D) A) : tLc wi g tt te vs σ H Q :=
  hw H but_le _ fun J G H2 e2 w sG D hD => by
    have D0 : H D = none := fresh_back e2 hD
    have Dt : D ≠ t := fun z => by rw [z, ho] at D0; cases D0
    have kp : ∀ {A : Hp}, (∀ a o, a ≠ t → H2 a = some o → A a = some o) → ∀ a o, a ≠ t → H a = some o → A a = some o := fun k a o ha h => k a o ha (e2 _ _ h)
    refine lc_it w (fun i A => (∀ a o, a ≠ t → H2 a = some o → A a = some o) ∧ ∃ acc, A D = some (.lst acc) ∧ acc.length ≤ i ∧ R i acc A) ⟨fun a o _ h => Ex.new hD a o h, [], upd_same, Nat.le_refl _, h0 _ (e2.trans (Ex.new hD))⟩ (fun i A _ p => sG A (fun a o h => ?_) fun a o h1 h2 => p.1 a o (fun z => by rw [z, ho] at h1; cases h1) h2)
      (fun i x A B hi p y => ?_) (fun A ⟨p1, acc, p2, p5, p3⟩ => hd D acc A D0 Dt p2 p5 (kp p1) p3)
    · by_cases z : a = t
      · rw [z] at h
        unfold but at h
        rw [if_pos rfl] at h
        cases h
      · rw [but_at z] at h
        exact kp p.1 a o z h
    · obtain ⟨p1, acc, p2, p3, p4⟩ := p
      obtain ⟨ab, k⟩ := aim i (wipe σ vs) A x B hi y
      refine k _ ⟨hs i, ?_⟩
      have hB : B D = some (.lst acc) := ab _ _ p2
      have pB : ∀ a o, a ≠ t → H2 a = some o → B a = some o := fun a o ha h => ab _ _ (p1 a o ha h)
      refine hst i acc B _ _ hi (kp pB) p3 (hx _ _ _ _ p4 ab) (fun y H4 k4 r4 => ?_) fun H3 k3 r3 => ⟨fun a o ha h => k3 a o ha (pB a o ha h), acc, k3 _ _ Dt hB, by omega, r3⟩
      have h4 : H4 D = some (.lst acc) := k4 _ _ Dt hB
      refine ⟨acc, h4, sz_lt (by omega), fun a o ha h => ?_, acc ++ [y], upd_same, by rw [List.length_append, List.length_singleton]; omega, hu _ _ _ _ _ _ D0 Dt h4 r4⟩
      rw [upd_ne (ne_of_none h hD)]
      exact k4 a o ha (pB a o ha h)
end Hk
end S_Wn
section S_Wo
namespace Hk
open PySem PySem.Spec PyProof.Rows L2 Tl
mutual
theorem dp_ex {K : PySem.W.Frag} {H H' : Hp} (e : Evl.Ex H H') : ∀ {v : V} {d : PyData}, Dp K H v d → Dp K H' v d
  | _, _, .non => .non
  | _, _, .bl b => .bl b
  | _, _, .int i => .int i
  | _, _, .str x => .str x
  | _, _, .lst h a => .lst (Evl.ex_l e h) (dpa_ex e a)
  | _, _, .tup h a => .tup (Evl.ex_t e h) (dpa_ex e a)
theorem dpa_ex {K : PySem.W.Frag} {H H' : Hp} (e : Evl.Ex H H') : ∀ {vs : List V} {ds : List PyData}, DpAll K H vs ds → DpAll K H' vs ds
  | _, _, .nil => .nil
  | _, _, .cons h a => .cons (dp_ex e h) (dpa_ex e a)
end
/-- a value that can be compared -/
def DpS (K : PySem.W.Frag) (H : Hp) (v : V) : Prop := ∃ d, Dp K H v d ∧ d.canLay0 = true ∧ d.depth ≤ 5
theorem DpS.ex {K : PySem.W.Frag} {H H' : Hp} {v : V} (h : DpS K H v) (e : Evl.Ex H H') : DpS K H' v := h.imp fun d ⟨a, b⟩ => ⟨dp_ex e a, b⟩
theorem lay_all : ∀ {ds : List PyData}, (∀ d ∈ ds, d.canLay0 = true) → PyData.canLayAll0 ds = true
  | [], _ => rfl
  | d :: r, h => by
    unfold PyData.canLayAll0
    rw [h d List.mem_cons_self, lay_all fun x hx => h x (List.mem_cons_of_mem _ hx)]
    rfl
theorem deep_all {c : Nat} : ∀ {ds : List PyData}, (∀ d ∈ ds, d.depth ≤ c) → PyData.depthAll ds ≤ c
  | [], _ => Nat.zero_le _
  | d :: r, h => by
    unfold PyData.depthAll
    have h1 := h d List.mem_cons_self
    have h2 := deep_all fun x hx => h x (List.mem_cons_of_mem _ hx)
    omega
theorem shaped_list {c : Nat} (hc : c ≤ 60) {ds : List PyData} (h : ∀ d ∈ ds, d.canLay0 = true ∧ d.depth ≤ c) : SeqAt.shaped (.list ds) = true := by
  unfold SeqAt.shaped
  have h1 : (PyData.list ds).canLay0 = true := by unfold PyData.canLay0; exact lay_all fun d hd => (h d hd).1
  have h2 : (PyData.list ds).depth ≤ 64 := by
    have := deep_all fun d hd => (h d hd).2
    unfold PyData.depth
    omega
  rw [h1, decide_eq_true h2] <;> rfl
theorem dps_all {K : PySem.W.Frag} {H : Hp} : ∀ {xs : List V}, (∀ v ∈ xs, DpS K H v) → ∃ ds, DpAll K H xs ds ∧ (∀ d ∈ ds, d.canLay0 = true ∧ d.depth ≤ 5) ∧ ds.length = xs.length
  | [], _ => ⟨[], .nil, fun d hd => (nomatch hd), rfl⟩
  | v :: r, h => by
    obtain ⟨d, a, b⟩ := h v List.mem_cons_self
    obtain ⟨ds, c1, c2, c3⟩ := dps_all (xs := r) fun x hx => h x (List.mem_cons_of_mem _ hx)
    refine ⟨d :: ds, .cons a c1, fun x hx => ?_, by rw [List.length_cons, List.length_cons, c3]⟩
    rcases List.mem_cons.mp hx with rfl | hx
    · exact b
    · exact c2 x hx
theorem eqv_nil (ds : List PyData) : PyData.eqv (.list ds) (.list []) = ds.isEmpty := by
  cases ds with
  | nil => rfl
  | cons d r => rfl
section
open Evl
variable {K : PySem.W.Frag} {σ : L2.St} {H : Hp} {ta tb : TE}
theorem ev_eqNilD {xs : List V} (ha : EvL ta σ H xs) (hb : EvL tb σ H []) (hx : ∀ v ∈ xs, DpS K H v) : Ev (tOp (rEqD K) ta tb) σ H (.bl xs.isEmpty) :=
  ev_opLL ha hb fun p q H1 h1 h2 e1 => fun H2 e2 Q k => by
    obtain ⟨ds, d1, d2, d3⟩ := dps_all (K := K) (H := H2) (xs := xs) fun v hv => (hx v hv).ex (e1.trans e2)
    refine ⟨.list ds, .list [], .lst (sq_of (e2 _ _ h1)) d1, .lst (sq_of (e2 _ _ h2)) .nil, shaped_list (c := 5) (by decide) d2, shaped_list (c := 5) (by decide) (fun d hd => nomatch hd), ?_⟩
    rw [eqv_nil]
    have : ds.isEmpty = xs.isEmpty := by cases ds <;> cases xs <;> first | rfl | (cases d3)
    rw [this]
    exact k H2 (Ex.refl H2)
theorem ev_neNilD {xs : List V} (ha : EvL ta σ H xs) (hb : EvL tb σ H []) (hx : ∀ v ∈ xs, DpS K H v) : Ev (tOp (rNeD K) ta tb) σ H (.bl !xs.isEmpty) :=
  ev_opLL ha hb fun p q H1 h1 h2 e1 => fun H2 e2 Q k => by
    obtain ⟨ds, d1, d2, d3⟩ := dps_all (K := K) (H := H2) (xs := xs) fun v hv => (hx v hv).ex (e1.trans e2)
    refine ⟨.list ds, .list [], .lst (sq_of (e2 _ _ h1)) d1, .lst (sq_of (e2 _ _ h2)) .nil, shaped_list (c := 5) (by decide) d2, shaped_list (c := 5) (by decide) (fun d hd => nomatch hd), ?_⟩
    rw [eqv_nil]
    have : ds.isEmpty = xs.isEmpty := by cases ds <;> cases xs <;> first | rfl | (cases d3)
    rw [this]
    exact k H2 (Ex.refl H2)
end
end Hk
end S_Wo
section S_Wp
namespace Hk
open PySem PySem.Spec PyProof.Rows L2 Tl
def rIxB (K : PySem.W.Frag) : R2 := fun x y H Q => rIxL K x y H Q ∨ rIxT K x y H Q
theorem ix_any2 {X : Cx} : IxR X (rIxB X.K) := fun value slice pins s σ H x y v u Q I r1 r2 h e => h.elim (fun h => ix_list value slice pins s σ H x y v u Q I r1 r2 h e) (fun h => ix_tup value slice pins s σ H x y v u Q I r1 r2 h e)
/-- a list or a tuple -/
def SqS (K : PySem.W.Frag) (H : Hp) (a : Addr) (xs : List V) : Prop := SqL K H a xs ∨ SqT K H a xs
theorem SqS.ex {K : PySem.W.Frag} {H H' : Hp} {a : Addr} {xs : List V} (h : SqS K H a xs) (e : Evl.Ex H H') : SqS K H' a xs := h.elim (fun h => .inl (Evl.ex_l e h)) (fun h => .inr (Evl.ex_t e h))
theorem rv_ixB {K : PySem.W.Frag} {H : Hp} {v : V} {p : Addr} {xs : List V} {i : Int} (h : SqS K H p xs) (ha : atI xs i = some v) : Evl.RV (rIxB K) (.ref p) (.int i) H v := fun H1 e Q q =>
  h.elim (fun h => .inl (Evl.rv_ixL h ha H1 e Q q)) (fun h => .inr (Evl.rv_ixT h ha H1 e Q q))
theorem ev_lenB {K : PySem.W.Frag} {ta : TE} {σ : L2.St} {H : Hp} {p : Addr} {xs : List V} (ha : Evl.Ev ta σ H (.ref p)) (h : SqS K H p xs) : Evl.Ev (tCB (Evl.rLenS K) (tCons ta tNil)) σ H (.int (xs.length : Int)) := fun H1 e Q q =>
  ha H1 e _ fun H2 e2 => ⟨p, xs, rfl, h.ex (e.trans e2), q H2 e2⟩
theorem ev_ixB {K : PySem.W.Frag} {te : TE} {σ : L2.St} {H : Hp} {a : Addr} {xs : List V} {j : Nat} {v : V} (h : Evl.Ev te σ H (.ref a)) (ha : SqS K H a xs) (hv : xs[j]? = some v) : Evl.Ev (tOp (rIxB K) te (tC (.int (j : Int)))) σ H v := Evl.ev_op h Evl.ev_c (rv_ixB ha (atI_nat hv))
/-- a walk over a list or a tuple -/
def iEi (K : PySem.W.Frag) (te : TE) : TI := fun σ H R => iList K te σ H R ∨ iTup K te σ H R
theorem pi_ei {X : Cx} {tg e : Expr} {te : TE} (he : PE X e te) : PI X tg e (iEi X.K te) := ⟨fun pins s σ H R I h => h.elim (fun h => (pi_list (tg := tg) he).run pins s σ H R I h) fun h => (pi_tup (tg := tg) he).run pins s σ H R I h⟩
theorem ei_ei {K : PySem.W.Frag} {σ : L2.St} {H : Hp} {te : TE} {a : Addr} {xs : List V} (h : Evl.Ev te σ H (.ref a)) (hs : SqS K H a xs) : EvI (iEi K te) σ H xs.length (YAt xs) := fun H1 e R k => hs.elim (fun hs => .inl (ei_list h hs H1 e R k)) fun hs => .inr (ei_tup h hs H1 e R k)
/-- a, b, .. = a list or a tuple of that length -/
def gEi (K : PySem.W.Frag) (n : Nat) (t : TGs) : TG := fun v σ H Q => gLst K n t v σ H Q ∨ gTup K n t v σ H Q
theorem gEi_of {K : PySem.W.Frag} {n : Nat} {t : TGs} {a : Addr} {xs : List V} {σ : L2.St} {H : Hp} {Q : L2.St → Hp → Prop} (h : SqS K H a xs) (hn : xs.length = n) (q : t xs σ H Q) : gEi K n t (.ref a) σ H Q := h.elim (fun h => .inl ⟨a, xs, rfl, h, hn, q⟩) fun h => .inr ⟨a, xs, rfl, h, hn, q⟩
theorem pg_ei {X : Cx} {pos : Pos} {es : List Expr} {k : Nat} {t : TGs} {n : Nat} (hc : X.calm = true) (h : PGs X es t)
    (hn : (assignEach es X.env).length = n := by rfl) (hst : (assignEach es X.env).findIdx? (·.1) = none := by rfl) : PG X (.Tuple es k pos) (gEi X.K n t) :=
  ⟨fun pins s σ H v u Q I r hw => hw.elim (fun hw => (pg_lst hc h hn hst).run pins s σ H v u Q I r hw) fun hw => (pg_tup hc h hn hst).run pins s σ H v u Q I r hw⟩
noncomputable def pd (p : Prop) : Bool := @decide p (Classical.propDecidable p)
theorem pd_true {p : Prop} (h : p) : pd p = true := @decide_eq_true p (Classical.propDecidable p) h
theorem pd_false {p : Prop} (h : ¬p) : pd p = false := @decide_eq_false p (Classical.propDecidable p) h
theorem pd_of {p : Prop} (h : pd p = true) : p := @of_decide_eq_true p (Classical.propDecidable p) h
theorem pd_not {p : Prop} (h : pd p = false) : ¬p := @of_decide_eq_false p (Classical.propDecidable p) h
theorem pd_is {p : Prop} {b : Bool} (h : p ↔ b = true) : pd p = b := by
  cases b with
  | true => exact pd_true (h.mpr rfl)
  | false => exact pd_false fun z => nomatch h.mp z
end Hk
end S_Wp
section S_Td
namespace Hk
open PySem PySem.Spec PyProof.Rows L2
theorem ev_lenS {K : PySem.W.Frag} {ta : TE} {σ : L2.St} {H : Hp} {p : Addr} {xs : List V} (ha : Evl.Ev ta σ H (.ref p)) (h : SqS K H p xs) : Evl.Ev (tCB (Evl.rLenS K) (tCons ta tNil)) σ H (.int (xs.length : Int)) := fun H1 e Q q =>
  ha H1 e _ fun H2 e2 => ⟨p, xs, rfl, h.ex (e.trans e2), q H2 e2⟩
end Hk
namespace P51
open PySem PySem.Spec PyProof.Rows L2 Tl Hk
/-- the word ws, at a -/
def WAt (K : PySem.W.Frag) (H : Hp) (a : Addr) (ws : List Int) : Prop := SqS K H a (ws.map V.int)
theorem w_at {ws : List Int} {i : Nat} (h : i < ws.length) : atI (ws.map V.int) (i : Int) = some (.int (ws.getD i 0)) := by
  refine atI_nat ?_
  rw [List.getElem?_map, List.getD_eq_getElem?_getD, List.getElem?_eq_getElem h] <;> rfl
theorem fdiv2 (n : Nat) : (n : Int).fdiv 2 = ((n / 2 : Nat) : Int) := by
  rw [Int.fdiv_eq_ediv_of_nonneg _ (by omega)]
  omega
def oV : Option Nat → V
  | none => .non
  | some b => .int (b : Int)
def spBegin (K : PySem.W.Frag) : Sp := fun vs H Q _ => ∃ (a : Addr) (half : Nat) (ws : List Int), vs = [.ref a, .int half] ∧ WAt K H a ws ∧ ws.length ≤ 4000 ∧ 1 ≤ half ∧ half ≤ ws.length / 2 ∧ ∀ r, W48.Fb ws half r → ∀ H1, Evl.Ex H H1 → Q (oV r) H1
theorem scBegin : FnScope ["word", "half", "alike", "at"] ["word", "half"] (defScope sBegin) := ⟨rfl, rfl, rfl, by decide +kernel, rfl, by decide +kernel, by decide +kernel⟩
section
variable {P : Program} {w : World} {K : PySem.W.Frag} {mg : Str → Option Value} {base : Heap}
theorem ok_begin {f : Addr} {fd : FuncData} {k : Nat} (F : Fun K "_first_begin" "_first_begin" sBegin f fd) (mlen : mg "len" = none) (mrange : mg "range" = none) : FnOk P w K mg base CX0 (k + 1) f fd ["word", "half"] (spBegin K) := by
  refine F.ok scBegin (fun vs H Q E h => ?_) (fun cdv A outer s H vs Q E hr h => ?_)
  · obtain ⟨a, half, ws, rfl, _⟩ := h
    rfl
  · obtain ⟨a, half, ws, rfl, hW, hz, h1, h2, q⟩ := h
    have nd := scBegin.nd
    refine ⟨_, pss_cons (ps_set (i := 2) nd rfl (.inl rfl) pe_int) (pss_cons (ps_for PassesOwn.never rfl (pi_range2 (by rfl) mrange (pa_cons (pv 1) (pa_cons (pe_callB call_len_seq (by rfl) mlen PySem.boot_len (pa_cons (pv 0) pa_nil)) pa_nil))) (pg_name (i := 3) nd rfl (Or.inl rfl))
        (pss_cons (ps_set (i := 2) nd rfl (.inl rfl) (pe_ifExp (pt_cmpR op_eq (pe_ix ix_any2 (pv 0) (pv 3) (fun _ _ => rfl)) (pe_ix ix_any2 (pv 0) (pe_op op_sub (pv 3) (pv 1)) (fun _ _ => rfl)) (nomark _)) (pe_op op_add (pv 2) pe_int) pe_int))
        (pss_one (ps_if (pt_cmpR op_eq (pv 2) (pv 1) (nomark _)) (pss_one (ps_ret (pe_op op_add (pe_op op_sub (pv 3) (pe_op op_mul pe_int (pv 1))) pe_int))) pss_nil))))
      (pss_one (ps_ret pe_non))), ?_⟩
    have lenW : (ws.map V.int).length = ws.length := List.length_map _
    refine Evl.q_asg Evl.ev_c fun H1 e1 => ?_
    refine Evl.q_forR2 (lo := (half : Int)) (n := (ws.length : Int)) (Evl.ea_cons (Evl.ev_var rfl) (Evl.ea_cons (Evl.ev_is (ev_lenS (Evl.ev_var rfl) (hW.ex e1)) (by rw [lenW])) Evl.ea_nil)) ⟨by omega, by omega, by omega, by omega⟩
      (fun i σ' H' => ∃ y, σ' = [some (.ref a), some (.int (half : Int)), some (.int ((W48.run ws half i : Nat) : Int)), y] ∧ (∀ k, k < i → W48.run ws half (k + 1) ≠ half) ∧ Evl.Ex H H') (fun H2 e2 => ⟨none, rfl, fun k hk => absurd hk (Nat.not_lt_zero _), e1.trans e2⟩) ?_
      (fun σ' H' ⟨y, e0, hn, e⟩ => Evl.s_ret Evl.ev_c fun H2 e2 => q none (W48.fb_none h1 fun i hi => hn i (by omega)) H2 (e.trans e2))
    rintro i σ' H' hi ⟨y, rfl, hn, e⟩
    have hi2 : half + i < ws.length := by omega
    have hWe := hW.ex e
    refine Evl.q_asg (v := .int ((W48.run ws half (i + 1) : Nat) : Int)) (Evl.ev_if (b := decide (V.int (ws.getD (half + i) 0) = V.int (ws.getD i 0))) (Evl.et_test (Evl.ev_op
        (Evl.ev_op (Evl.ev_var rfl) (Evl.ev_var rfl) (rv_ixB hWe (by rw [show (half : Int) + (i : Int) = ((half + i : Nat) : Int) by omega]; exact w_at hi2)))
        (Evl.ev_op (Evl.ev_var rfl) (Evl.ev_op (Evl.ev_var rfl) (Evl.ev_var rfl) Evl.rv_I0) (rv_ixB hWe (by rw [show (half : Int) + (i : Int) - (half : Int) = (i : Int) by omega]; exact w_at (by omega)))) (Evl.rv_eq rfl))) (fun hb => ?_) (fun hb => ?_)) fun H3 e3 => ?_
    · have eb : W48.M ws half i := V.int.inj (of_decide_eq_true hb)
      rw [W48.run, if_pos eb]
      exact Evl.ev_op (Evl.ev_var rfl) Evl.ev_c Evl.rv_I0
    · have eb : ¬ W48.M ws half i := fun z => of_decide_eq_false hb (congrArg V.int z)
      rw [W48.run, if_neg eb]
      exact Evl.ev_c
    · refine Evl.s_when (b := decide (W48.run ws half (i + 1) = half)) (Evl.et_is (Evl.et_test (Evl.ev_op (Evl.ev_var rfl) (Evl.ev_var rfl) (Evl.rv_eq rfl))) (by
          by_cases z : W48.run ws half (i + 1) = half
          · rw [decide_eq_true z, z, decide_eq_true rfl]
          · rw [decide_eq_false z, decide_eq_false fun y => z (by have := V.int.inj y; omega)])) (fun hb H4 e4 => ?_) fun hb H4 e4 => ?_
      · obtain ⟨g1, g2⟩ := W48.fb_some h1 (by omega) hn (of_decide_eq_true hb)
        refine Evl.s_ret (v := .int ((i + 1 - half : Nat) : Int)) (Evl.ev_is (Evl.ev_op (Evl.ev_op (Evl.ev_var rfl) (Evl.ev_op Evl.ev_c (Evl.ev_var rfl) (Evl.rv_I (.inl ⟨by omega, by omega⟩))) Evl.rv_I0) Evl.ev_c Evl.rv_I0) (congrArg V.int (by omega))) fun H5 e5 => ?_
        exact q (some (i + 1 - half)) g2 H5 (((e.trans e3).trans e4).trans e5)
      · exact ⟨some (.int ((half : Int) + (i : Int))), rfl, fun k hk => by
          by_cases z : k = i
          · rw [z]; exact of_decide_eq_false hb
          · exact hn k (by omega), (e.trans e3).trans e4⟩
end
end P51
end S_Td
section S_Te
namespace Hk
open PySem PySem.Spec PyProof.Rows L2 Tl
/-- pairs of ints, as data -/
def pD (p : Int × Int) : PyData := .tuple [.int p.1, .int p.2]
def pLt (p q : Int × Int) : Bool := if p.1 = q.1 then decide (p.2 < q.2) else decide (p.1 < q.1)
def pMin (x : Int × Int) (xs : List (Int × Int)) : Int × Int := xs.foldl (fun a y => if pLt y a = true then y else a) x
theorem pD_to (p : Int × Int) : pD p = PySem.W.Datum.toD p := rfl
theorem pMin_is (x : Int × Int) (xs : List (Int × Int)) : PySem.W.minOf x xs = pMin x xs := rfl
theorem pD_inj {p q : Int × Int} (h : pD p = pD q) : p = q := by
  unfold pD at h
  injection h with h
  injection h with h1 h2
  injection h2 with h2 _
  injection h1 with h1
  injection h2 with h2
  exact Prod.ext h1 h2
/-- min(ps, default=z), ps a list of pairs -/
def rMinP (K : PySem.W.Frag) : List V → List V → Hp → VK → Prop := fun xs zs H Q => ∃ (l : Addr) (z : V) (ys : List V) (ps : List (Int × Int)), xs = [.ref l] ∧ zs = [z] ∧ SqL K H l ys ∧ DpAll K H ys (ps.map pD) ∧
  (ps = [] → Q z H) ∧ ∀ (p : Int × Int) (r : List (Int × Int)) (i : Nat) (y : V), ps = p :: r → ys[i]? = some y → ps[i]? = some (pMin p r) → Q y H
theorem call_minP {X : Cx} (hc : X.calm = true) (hu : X.A.units + 64 < cLine) : CallRK X (.builtin "min") ["default"] (rMinP X.K) := by
  intro pins s σ H xs zs us ws Q I r r2 h
  obtain ⟨l, z, ys, ps, rfl, rfl, hS, hD, q0, q1⟩ := h
  cases r with
  | cons rx rr =>
    cases rr
    cases rx
    cases r2 with
    | cons rz rr =>
      cases rr
      obtain ⟨its, rv, pl, hz⟩ := I.list hS
      obtain ⟨as, ra⟩ := Dp.readsAll I _ _ _ hD rv
      have hold : PySem.W.HoldAll s.heap its ps := ⟨as, ra⟩
      refine PySem.W.min_list_datum_default (α := Int × Int) (I.ok.hd hc) pl.isList (by rw [List.toList_toArray]; exact hold) (by show X.A.units + 1 + PySem.W.Datum.depth (Int × Int) < cLine; exact Nat.lt_of_le_of_lt (by show X.A.units + 1 + (1 + max 0 0) ≤ X.A.units + 64; omega) hu)
        (fun e h' tk kp => ⟨z, H, I.kept (t' := tk) kp, rz, q0 e⟩) fun y r i v h' tk e hi hm kp => ?_
      rw [List.getElem?_toArray] at hi
      obtain ⟨x, hx, hh⟩ := hold.at hi
      obtain ⟨bs, rb⟩ := hh
      obtain ⟨cs, rc⟩ := hm
      have e2 := (PyProof.Rows.reads_det (fun b o g _ => kp b o g) rb rc).1
      have e3 : PySem.W.minOf y r = x := pD_inj e2
      obtain ⟨u, hu2, ru⟩ : ∃ u, ys[i]? = some u ∧ RelV u v := by
        cases hy : ys[i]? with
        | none => rw [Vals.none_of rv hy] at hi; cases hi
        | some u =>
          obtain ⟨v2, h2, r2⟩ := Vals.get rv hy
          rw [hi] at h2
          cases h2
          exact ⟨u, rfl, r2⟩
      refine ⟨u, H, I.kept (t' := tk) kp, ru, q1 y r i u e hu2 ?_⟩
      rw [← pMin_is, e3, hx]
end Hk
end S_Te
section S_Tf
namespace Hk
open PySem PySem.Spec PyProof.Rows L2 Tl
def pLe (p q : Int × Int) : Prop := p.1 < q.1 ∨ (p.1 = q.1 ∧ p.2 ≤ q.2)
theorem pLe_refl (p : Int × Int) : pLe p p := .inr ⟨rfl, Int.le_refl _⟩
theorem pLe_trans {p q r : Int × Int} (a : pLe p q) (b : pLe q r) : pLe p r := by
  unfold pLe at *
  omega
theorem pLt_yes {p q : Int × Int} (h : pLt p q = true) : pLe p q := by
  unfold pLt at h
  unfold pLe
  by_cases e : p.1 = q.1
  · rw [if_pos e] at h
    have := of_decide_eq_true h
    omega
  · rw [if_neg e] at h
    have := of_decide_eq_true h
    omega
theorem pLt_no {p q : Int × Int} (h : ¬ pLt p q = true) : pLe q p := by
  unfold pLt at h
  unfold pLe
  by_cases e : p.1 = q.1
  · rw [if_pos e, decide_eq_true_eq] at h
    omega
  · rw [if_neg e, decide_eq_true_eq] at h
    omega
theorem pMin_spec : ∀ (xs : List (Int × Int)) (x : Int × Int), ∀ q ∈ x :: xs, pLe (pMin x xs) q
  | [], x, q, h => by
    rw [List.mem_singleton.mp h]
    exact pLe_refl x
  | y :: ys, x, q, h => by
    have e : pMin x (y :: ys) = pMin (if pLt y x = true then y else x) ys := rfl
    rw [e]
    have a := pMin_spec ys (if pLt y x = true then y else x)
    have b := a _ List.mem_cons_self
    rcases List.mem_cons.mp h with rfl | h
    · refine pLe_trans b ?_
      by_cases c : pLt y q = true
      · rw [if_pos c]; exact pLt_yes c
      · rw [if_neg c]; exact pLe_refl _
    · rcases List.mem_cons.mp h with rfl | h
      · refine pLe_trans b ?_
        by_cases c : pLt q x = true
        · rw [if_pos c]; exact pLe_refl _
        · rw [if_neg c]; exact pLt_no c
      · exact a q (List.mem_cons_of_mem _ h)
end Hk
namespace P51
open PySem PySem.Spec PyProof.Rows L2 Tl Hk
def Res (H : Hp) (v : V) : Option (Nat × Nat) → Prop
  | none => v = .non
  | some (b, h) => ∃ p, v = .ref p ∧ H p = some (.tup [.int (b : Int), .int (h : Int)])
theorem ckw1 {r : List V → List V → Hp → VK → Prop} {te tz : TE} {D : Ends} {σ : L2.St} {H : Hp} (h : te σ H fun v H1 => tz σ H1 fun z H2 => r [v] [z] H2 D.rt) : tRet (tCKw r (tCons te tNil) (tCons tz tNil)) D σ H := h
def spFirst (K : PySem.W.Frag) (C : Addr) : Sp := fun vs H Q E => ∃ (x : V) (b : Bool), vs = [x] ∧ RowR K H (.int 0) .non x b ∧
  (b = true → ∃ (a : Addr) (ws : List Int), x = .ref a ∧ WAt K H a ws ∧ ws.length ≤ 4000 ∧ ∀ r, W48.Least ws r → ∀ v H1, Evl.Ex H H1 → Res H1 v r → Q v H1) ∧
  (b = false → ∀ H1 d, Evl.Ex H H1 → H1 d = none → E (.ref C) (some d) (upd H1 d (.xd [(("part" : Str), .str "word")])))
theorem scFirst : FnScope ["word", "repeats", "half", "repeat"] ["word"] (defScope sFirst) := ⟨rfl, rfl, rfl, by decide +kernel, rfl, by decide +kernel, by decide +kernel⟩
/-- the pairs of the halves that have a begin -/
def pairs (rs : Nat → Option Nat) (is : List Nat) : List (Int × Int) := (is.filter fun i => (rs i).isSome).map fun i => (((rs i).getD 0 : Nat), ((i + 1 : Nat) : Int))
theorem dp_pairs {K : PySem.W.Frag} {H : Hp} {rs : Nat → Option Nat} {v : Nat → V} : ∀ (is : List Nat), (∀ i ∈ is, ∃ t, v i = .ref t ∧ H t = some (.tup [oV (rs i), .int ((i + 1 : Nat) : Int)])) →
    DpAll K H ((is.filter fun i => (rs i).isSome).map v) ((pairs rs is).map pD)
  | [], _ => .nil
  | i :: r, h => by
    have ih := dp_pairs (K := K) r fun j hj => h j (List.mem_cons_of_mem _ hj)
    unfold pairs at ih ⊢
    obtain ⟨t, e1, e2⟩ := h i List.mem_cons_self
    cases hr : rs i with
    | none =>
      rw [List.filter_cons, if_neg (by rw [hr]; decide)]
      exact ih
    | some b =>
      rw [List.filter_cons, if_pos (by rw [hr]; rfl)]
      rw [List.map_cons, List.map_cons, List.map_cons, e1]
      refine .cons ?_ ih
      rw [hr] at e2
      rw [hr]
      exact .tup (Evl.st_of e2) (.cons (.int _) (.cons (.int _) .nil))
theorem least_of {ws : List Int} {rs : Nat → Option Nat} (h : ∀ i, i < ws.length / 2 → W48.Fb ws (i + 1) (rs i)) :
    (pairs rs (List.range (ws.length / 2)) = [] → W48.Least ws none) ∧
    ∀ (p : Int × Int) (r : List (Int × Int)) (i : Nat), pairs rs (List.range (ws.length / 2)) = p :: r → (pairs rs (List.range (ws.length / 2)))[i]? = some (pMin p r) →
      ∃ j b, ((List.range (ws.length / 2)).filter fun i => (rs i).isSome)[i]? = some j ∧ j < ws.length / 2 ∧ rs j = some b ∧ W48.Least ws (some (b, j + 1)) := by
  have mem_of : ∀ b h', W48.Rep ws b h' → ∃ b0, b0 ≤ b ∧ rs (h' - 1) = some b0 ∧ ((b0 : Int), (h' : Int)) ∈ pairs rs (List.range (ws.length / 2)) := fun b h' hr => by
    have l1 := hr.1
    have l2 := hr.2.1
    have hf := h (h' - 1) (by omega)
    rw [show h' - 1 + 1 = h' by omega] at hf
    cases e : rs (h' - 1) with
    | none =>
      rw [e] at hf
      exact absurd hr (hf b)
    | some b0 =>
      rw [e] at hf
      refine ⟨b0, ?_, rfl, ?_⟩
      · rcases Nat.lt_or_ge b b0 with z | z
        · exact absurd hr (hf.2 b z)
        · exact z
      · unfold pairs
        refine List.mem_map.mpr ⟨h' - 1, List.mem_filter.mpr ⟨List.mem_range.mpr (by omega), by rw [e]; rfl⟩, ?_⟩
        rw [e, show h' - 1 + 1 = h' by omega]
        rfl
  constructor
  · intro e b h' hr
    obtain ⟨b0, _, _, hm⟩ := mem_of b h' hr
    rw [e] at hm
    cases hm
  · intro p r i e hi
    have hs := pMin_spec r p
    rw [← e] at hs
    have hi2 := hi
    unfold pairs at hi2
    rw [List.getElem?_map] at hi2
    cases hj : ((List.range (ws.length / 2)).filter fun i => (rs i).isSome)[i]? with
    | none => rw [hj] at hi2; cases hi2
    | some j =>
      rw [hj] at hi2
      have em := (Option.some.inj hi2).symm
      have hm := List.mem_filter.mp (List.mem_of_getElem? hj)
      have hjl := List.mem_range.mp hm.1
      obtain ⟨b, hb⟩ := Option.isSome_iff_exists.mp hm.2
      refine ⟨j, b, rfl, hjl, hb, ?_⟩
      have hf := h j hjl
      rw [hb] at hf
      dsimp only at em
      rw [hb] at em
      refine ⟨hf.1, fun b' h' hr => ?_⟩
      obtain ⟨b0, hb0, _, hmem⟩ := mem_of b' h' hr
      have := hs _ hmem
      rw [em] at this
      unfold pLe at this
      dsimp only [Option.getD_some] at this
      omega
section
variable {P : Program} {w : World} {K : PySem.W.Frag} {mg : Str → Option Value} {base : Heap}
theorem ok_first {qI : Str} {f C fI fW fB : Addr} {fd fdW fdB : FuncData} {k : Nat} (F : Fun K "first_repeat" "first_repeat" sFirst f fd)
    (FW : Fun K "is_word" "is_word" sIsWord fW fdW) (GW : FnOk P w K mg base CX0 (k + 2) fW fdW ["value"] (spWord K)) (bW : Binds K fdW ["value"] []) (gW : mg "is_word" = some (.ref fW))
    (FB : Fun K "_first_begin" "_first_begin" sBegin fB fdB) (GB : FnOk P w K mg base CX0 (k + 2) fB fdB ["word", "half"] (spBegin K)) (bB : Binds K fdB ["word", "half"] []) (gB : mg "_first_begin" = some (.ref fB))
    (T : PySem.PartX.PartTxt K mg "BadWord" qI C fI) (mlen : mg "len" = none) (mrange : mg "range" = none) (mmin : mg "min" = none) : FnOk P w K mg base (L2.CX P w) (k + 3) f fd ["word"] (spFirst K C) := by
  refine F.okX scFirst (fun vs H Q E h => ?_) (fun cdv A outer s H vs Q E hr h => ?_)
  · obtain ⟨x, b, rfl, _⟩ := h
    rfl
  · obtain ⟨x, bb, rfl, hx, hy, hn⟩ := h
    have nd := scFirst.nd
    refine ⟨_, pss_cons (ps_if (pt_not (pt_val (pe_call GW hr (by rfl) gW FW.kp bW .nil pass0 (pa_cons (pv 0) pa_nil)))) (pss_one (ps_raisePart rfl T (k := k + 2) hr (takes_of rfl rfl rfl rfl) (pa_cons pe_str pa_nil) (by rfl) (by decide))) pss_nil)
      (pss_cons (ps_setLc (i := 1) (own := [("half", 2)]) (g := gName 2) (tt := tYes) rfl nd rfl rfl (sw_true rfl rfl rfl (by decide +kernel)) (pi_range2 (by rfl) mrange (pa_cons pe_int (pa_cons (pe_op op_add (pe_op op_fdivN (pe_callB call_len_seq (by rfl) mlen PySem.boot_len (pa_cons (pv 0) pa_nil)) pe_int) pe_int) pa_nil))) (blkOk_by (N := ["word", "repeats", "half", "repeat"]) (sc := defScope sFirst) (by decide +kernel)) (fun _ _ _ _ _ => pg_name (i := 2) nd rfl (Or.inl rfl)) (fun _ _ _ _ _ => pts_nil)
          (fun _ _ _ _ _ => pe_tup (pa_cons (pe_call GB hr (by rfl) gB FB.kp bB .nil pass0 (pa_cons (pv 0) (pa_cons (pv 2) pa_nil))) (pa_cons (pv 2) pa_nil))))
      (pss_one (ps_ret (pe_callBK (call_minP rfl hr.units) (by rfl) mmin (by decide +kernel) (pa_cons
          (pe_lc (own := [("repeat", 3)]) (g := gName 3) (tt := tTest (tOp (fun x y H Q => y = .non ∧ Q (.bl (!decide (x = .non))) H) (tOp (rIxT K) (tVar 3) (tC (.int 0))) (tC .non))) rfl nd (pi_list (pv 1)) (blkOk_by (N := ["word", "repeats", "half", "repeat"]) (sc := defScope sFirst) (by decide +kernel)) (fun _ _ _ _ _ => pg_name (i := 3) nd rfl (Or.inl rfl))
            (fun _ _ _ _ _ => pts_one (pt_cmpR op_notN (pe_ix ix_tup (pv 3) pe_int (fun _ _ => rfl)) pe_non (nomark _))) (fun _ _ _ _ _ => pv 3)) pa_nil) (pk_cons pe_non pk_nil))))), ?_⟩
    refine Evl.q_when (b := !bb) (Evl.et_not (Evl.et_B (Evl.ev_call (Evl.ea_cons (Evl.ev_var rfl) Evl.ea_nil) (spv_word hx)))) (fun hb H1 e1 => ?_) (fun hb H1 e1 => ?_)
    · have hb2 : bb = false := by
        cases bb with
        | false => rfl
        | true => cases hb
      exact ⟨.str "word", rfl, fun d hd => hn hb2 H1 d e1 hd⟩
    · have hb2 : bb = true := by
        cases bb with
        | false => cases hb
        | true => rfl
      obtain ⟨a, ws, rfl, hW, hz, q⟩ := hy hb2
      have lenW : (ws.map V.int).length = ws.length := List.length_map _
      have ehalf : (ws.length : Int).fdiv 2 + 1 = ((ws.length / 2 + 1 : Nat) : Int) := by rw [fdiv2] <;> rfl
      refine q_asgN (B := H1) (R := fun u H' => ∃ l xs, u = .ref l ∧ H' l = some (.lst xs) ∧ Holds (fun (i : Nat) v H'' => ∃ t r, v = .ref t ∧ H'' t = some (.tup [oV r, .int ((i + 1 : Nat) : Int)]) ∧ W48.Fb ws (i + 1) r) (ws.length / 2) xs H') (Evl.Ex.refl _)
        (en_nl (en_lc (ei_rng2c (i := 1) (j := ((ws.length / 2 + 1 : Nat) : Int)) (n := ws.length / 2) (by omega) (Evl.ea_cons Evl.ev_c (Evl.ea_cons (Evl.ev_is (Evl.ev_op (Evl.ev_op (Evl.ev_is (ev_lenS (Evl.ev_var rfl) (hW.ex e1)) (by rw [lenW])) Evl.ev_c (Evl.rv_I ⟨by omega, by omega⟩)) Evl.ev_c Evl.rv_I0) (congrArg V.int ehalf)) Evl.ea_nil)) (by omega) (by omega)) aims_fn (fun _ => rfl) (by omega) _
          fun i hi H2 e2 Q' q' => ?_)) fun v H2 e2 hv => ?_
      · have ei : (1 : Int) + (i : Int) = ((i + 1 : Nat) : Int) := by omega
        refine ⟨.ref a, rfl, .int (1 + (i : Int)), rfl, a, i + 1, ws, by rw [ei] <;> rfl, (hW.ex e1).ex e2, hz, by omega, by omega, fun r hF H3 e3 => ⟨.int (1 + (i : Int)), rfl, by show 2 ≤ sizeLine; decide, fun p hp => q' _ _ (e3.trans (Evl.Ex.new hp)) fun H4 e4 s4 => ⟨p, r, rfl, ?_, hF⟩⟩⟩
        rw [← ei]
        exact s4 _ _ (Evl.fresh_back e3 hp) upd_same
      · obtain ⟨l, xs, rfl, hl, hxs⟩ := hv H2 e2 fun a o _ h => h
        have ch : ∀ i, ∃ r : Option Nat, i < ws.length / 2 → (∃ t, xs.getD i .non = .ref t ∧ H2 t = some (.tup [oV r, .int ((i + 1 : Nat) : Int)])) ∧ W48.Fb ws (i + 1) r := fun i => by
          by_cases hi : i < ws.length / 2
          · have hi2 : i < xs.length := by rw [hxs.1]; exact hi
            obtain ⟨t, r, h1, h2, h3⟩ := hxs.2 i xs[i] (List.getElem?_eq_getElem hi2)
            refine ⟨r, fun _ => ⟨⟨t, ?_, h2⟩, h3⟩⟩
            rw [List.getD_eq_getElem?_getD, List.getElem?_eq_getElem hi2]
            exact h1
          · exact ⟨none, fun z => absurd z hi⟩
        obtain ⟨rs, hrs⟩ := Classical.axiomOfChoice ch
        have lo := least_of (ws := ws) (rs := rs) fun i hi => (hrs i hi).2
        refine ckw1 (Evl.el_lcL (K := K) (H := H2) (j := 3) (xs := xs) (fun i => (rs i).isSome) (fun i => xs.getD i .non) (Evl.ev_var rfl) (Evl.sq_of hl) (by rw [hxs.1]; omega) (fun _ => rfl) (fun i x H3 e3 hi => ?_) (fun i x H3 e3 hi _ => ?_) H2 (Evl.Ex.refl _) _ fun L H3 hL e3 h3 => ?_)
        · have hi2 : i < ws.length / 2 := by
            have := (List.getElem?_eq_some_iff.mp hi).1
            rw [hxs.1] at this
            exact this
          obtain ⟨⟨t, h1, h2⟩, _⟩ := hrs i hi2
          rw [List.getD_eq_getElem?_getD, hi] at h1
          obtain rfl : x = .ref t := h1
          refine Evl.et_is (Evl.et_test (Evl.ev_op (Evl.ev_op (Evl.ev_var rfl) Evl.ev_c (Evl.rv_ixT (Evl.st_of (e3 _ _ h2)) (v := oV (rs i)) rfl)) Evl.ev_c fun H4 _ Q q => ⟨rfl, q H4 (Evl.Ex.refl _)⟩)) ?_
          cases rs i with
          | none => rfl
          | some b => rfl
        · have ev : xs.getD i .non = x := by rw [List.getD_eq_getElem?_getD, hi]; rfl
          rw [ev]
          exact Evl.ev_var rfl
        · rw [hxs.1] at h3
          refine ⟨L, .non, _, pairs rs (List.range (ws.length / 2)), rfl, rfl, Evl.sq_of h3, dp_pairs _ fun i hi => ?_, fun e => ?_, fun p r i y e hy hi => ?_⟩
          · obtain ⟨⟨t, h1, h2⟩, _⟩ := hrs i (List.mem_range.mp hi)
            exact ⟨t, h1, e3 _ _ h2⟩
          · exact q none (lo.1 e) .non H3 ((e1.trans e2).trans e3) rfl
          · obtain ⟨j, b, g1, g2, g3, g4⟩ := lo.2 p r i e hi
            unfold Evl.given at hy
            rw [List.getElem?_map, g1] at hy
            have hy2 : xs.getD j .non = y := Option.some.inj hy
            obtain ⟨⟨t, h1, h2⟩, _⟩ := hrs j g2
            rw [g3] at h2
            exact q (some (b, j + 1)) g4 y H3 ((e1.trans e2).trans e3) ⟨t, by rw [← hy2, h1], e3 _ _ h2⟩
end
end P51
end S_Tf
section S_Fm
namespace W47
/-- whether there is an odd number of ones among the figures: by halves -/
def tmF : Nat → Nat → Nat
  | 0, _ => 0
  | f + 1, n => if n = 0 then 0 else (tmF f (n / 2) + n) % 2
def tm (n : Nat) : Nat := tmF 14 n
/-- behind t numbers from 1 on: the ones since the last nought, the word till then from its end on -/
def gs : Nat → Nat × List Nat
  | 0 => (0, [])
  | t + 1 => if tm (t + 1) = 1 then ((gs t).1 + 1, (gs t).2) else (0, (gs t).1 :: (gs t).2)
def sg (t : Nat) : List Nat := (gs t).2.reverse
theorem tm_lt (n : Nat) : tm n = 0 ∨ tm n = 1 := by
  unfold tm tmF
  split
  · exact .inl rfl
  · omega
def chkT : Nat → Bool
  | 0 => true
  | n + 1 => chkT n && decide (tm (n + 1) = (tm ((n + 1) / 2) + (n + 1)) % 2)
theorem chk_tm : chkT 4100 = true := by decide +kernel
theorem tm_of : ∀ n, chkT n = true → ∀ k, 1 ≤ k → k ≤ n → tm k = (tm (k / 2) + k) % 2
  | 0, _, k, h1, h2 => by omega
  | n + 1, h, k, h1, h2 => by
    rw [chkT, Bool.and_eq_true_iff] at h
    by_cases hk : k = n + 1
    · rw [hk]; exact of_decide_eq_true h.2
    · exact tm_of n h.1 k h1 (by omega)
theorem tm_rec {k : Nat} (h1 : 1 ≤ k) (h2 : k ≤ 4100) : tm k = (tm (k / 2) + k) % 2 := tm_of 4100 chk_tm k h1 h2
theorem sg_succ1 {t : Nat} (h : tm (t + 1) = 1) : (gs (t + 1)).1 = (gs t).1 + 1 ∧ sg (t + 1) = sg t := by
  unfold sg
  rw [gs, if_pos h]
  exact ⟨rfl, rfl⟩
theorem sg_succ0 {t : Nat} (h : tm (t + 1) ≠ 1) : (gs (t + 1)).1 = 0 ∧ sg (t + 1) = sg t ++ [(gs t).1] := by
  unfold sg
  rw [gs, if_neg h]
  exact ⟨rfl, List.reverse_cons⟩
theorem sg_pre {t u : Nat} (h : t ≤ u) : sg t <+: sg u := by
  induction u with
  | zero => rw [Nat.le_zero.mp h]; exact List.prefix_rfl
  | succ u ih =>
    by_cases e : t = u + 1
    · rw [e]; exact List.prefix_rfl
    · refine (ih (by omega)).trans ?_
      by_cases h1 : tm (u + 1) = 1
      · rw [(sg_succ1 h1).2]; exact List.prefix_rfl
      · rw [(sg_succ0 h1).2]; exact List.prefix_append _ _
/-- the word of 2000 signs -/
def W2 : List Nat := sg 4000
theorem len_last : W2.length = 2000 := by decide +kernel
theorem pre_W {t : Nat} (h : t ≤ 4000) : sg t <+: W2 := sg_pre h
theorem take_W {t : Nat} (h : t ≤ 4000) : sg t = W2.take (sg t).length := by
  obtain ⟨r, hr⟩ := pre_W h
  rw [← hr, List.take_left]
/-- noughts among 2 j + 1 and 2 j + 2 or so: there are enough signs -/
def enough : Nat → Nat → Nat → Bool
  | 0, _, _ => true
  | f + 1, t, c => let c' := if tm (t + 1) = 1 then c else c + 1
    decide (t + 1 ≤ 4 * c' + 7) && enough f (t + 1) c'
theorem enough_of : ∀ f t, enough f t (sg t).length = true → ∀ k, t < k → k ≤ t + f → k ≤ 4 * (sg k).length + 7
  | 0, t, _, k, h1, h2 => by omega
  | f + 1, t, h, k, h1, h2 => by
    have e : (if tm (t + 1) = 1 then (sg t).length else (sg t).length + 1) = (sg (t + 1)).length := by
      by_cases h0 : tm (t + 1) = 1
      · rw [if_pos h0, (sg_succ1 h0).2]
      · rw [if_neg h0, (sg_succ0 h0).2, List.length_append] <;> rfl
    unfold enough at h
    rw [e] at h
    rw [Bool.and_eq_true_iff] at h
    by_cases hk : k = t + 1
    · rw [hk]; exact of_decide_eq_true h.1
    · exact enough_of f (t + 1) h.2 k (by omega) (by omega)
theorem enough_is : enough 1700 0 0 = true := by decide +kernel
theorem long_enough {m : Nat} (h : m ≤ 420) : m ≤ (sg (4 * m + 7)).length := by
  have := enough_of 1700 0 (by rw [show (sg 0).length = 0 from rfl]; exact enough_is) (4 * m + 7) (by omega) (by omega)
  omega
/-! ### by rows of signs -/
def rowsL : List (List Nat) := [[1], [2, 0], [2, 1, 0]]
def led : Nat → List Nat
  | 0 => [2]
  | k + 1 => (led k).flatMap fun s => rowsL.getD s []
def ledOk : Nat → Bool
  | 0 => decide (led 0 = W2.take 1)
  | k + 1 => ledOk k && decide ((led (k + 1)).take 2000 = W2.take (led (k + 1)).length)
theorem led_all : ledOk 11 = true := by decide +kernel
/-! ### doubled -/
def fig : Nat → List Nat
  | 0 => [0]
  | k + 1 => fig k ++ (fig k).map fun x => 1 - x
def figOk : Nat → Bool
  | 0 => true
  | k + 1 => figOk k && decide (fig (k + 1) = (List.range (2 ^ (k + 1))).map tm)
theorem fig_all : figOk 11 = true := by decide +kernel
/-! ### without a repeat -/
def runOk (half : Nat) : List Bool → Nat → Bool
  | [], _ => true
  | b :: r, c => let c' := if b = true then c + 1 else 0
    !(c' == half) && runOk half r c'
def halfOk (w : List Nat) (half : Nat) : Bool := runOk half (List.zipWith (· == ·) w (w.drop half)) 0
def freeOk (w : List Nat) : Nat → Bool
  | 0 => true
  | h + 1 => freeOk w h && halfOk w (h + 1)
theorem free_W : freeOk (W2.take 420) 210 = true := by decide +kernel
end W47
end S_Fm
section S_Ti
namespace P51
open PySem PySem.Spec PyProof.Rows L2 Tl Hk
def spWant (K : PySem.W.Frag) (C : Addr) : Sp := fun vs H Q E => ∃ (x lo hi : V) (n : String) (pt : Str), vs = [x, lo, hi, .str pt] ∧ Ty7 K H x n ∧ Bnd lo ∧ Bnd hi ∧ (wi x lo hi = true → ∀ H1, Evl.Ex H H1 → Q .non H1) ∧
  (wi x lo hi = false → ∀ H1 d, Evl.Ex H H1 → H1 d = none → E (.ref C) (some d) (upd H1 d (.xd [(("part" : Str), .str pt)])))
theorem scWant : FnScope ["value", "least", "most", "part"] ["value", "least", "most", "part"] (defScope sWant) := ⟨rfl, rfl, rfl, by decide +kernel, rfl, by decide +kernel, by decide +kernel⟩
theorem scPlain : FnScope ["many", "signs", "ones", "row", "number"] ["many"] (defScope sPlain) := ⟨rfl, rfl, rfl, by decide +kernel, rfl, by decide +kernel, by decide +kernel⟩
section
open Evl
variable {K : PySem.W.Frag} {σ : L2.St} {H H' : Hp} {ta tb te : TE}
theorem eu_tuple {ta : TE} {l : Addr} {xs : List V} (h : Ev ta σ H (.ref l)) (hl : SqL K H l xs) : EvU (tCB (fun xs H Q => ∃ p ys, xs = [V.ref p] ∧ ((SqL K H p ys ∧ ∀ l, H l = none → Q (V.ref l) (upd H l (HO.tup ys))) ∨ (SqT K H p ys ∧ Q (V.ref p) H))) (tCons ta tNil)) σ H xs := fun H1 e Q q =>
  h H1 e _ fun H2 e2 => ⟨l, xs, rfl, .inl ⟨ex_l (e.trans e2) hl, fun p hp => q p _ (fresh_back e2 hp) (e2.trans (Ex.new hp)) upd_same⟩⟩
end
def iv (l : List Nat) : List V := l.map fun s : Nat => V.int (s : Int)
def spPlain (K : PySem.W.Frag) (C : Addr) : Sp := fun vs H Q E => ∃ (x : V) (n : String), vs = [x] ∧ Ty7 K H x n ∧ (∀ m : Nat, x = .int m → m ≤ 2000 → ∀ p H1, H p = none → Evl.Ex H H1 → H1 p = some (.tup (iv (W47.W2.take m))) → Q (.ref p) H1) ∧
  (wi x (.int 0) (.int 2000) = false → ∀ H1 d, Evl.Ex H H1 → H1 d = none → E (.ref C) (some d) (upd H1 d (.xd [(("part" : Str), .str "many")])))
theorem fmod2 (a b : Nat) : ((a : Int) + (b : Int)).fmod 2 = (((a + b) % 2 : Nat) : Int) := by
  rw [Int.fmod_eq_emod_of_nonneg _ (by omega)]
  omega
theorem iv_len (l : List Nat) : (iv l).length = l.length := List.length_map _
theorem iv_app (l m : List Nat) : iv (l ++ m) = iv l ++ iv m := List.map_append
theorem iv_at {l : List Nat} {i x : Nat} (h : l[i]? = some x) : atI (iv l) (i : Int) = some (.int (x : Int)) := atI_nat (by unfold iv; rw [List.getElem?_map, h]; rfl)
def tms (t : Nat) : List Nat := (List.range t).map W47.tm
theorem tms_at {t i : Nat} (h : i < t) : (tms t)[i]? = some (W47.tm i) := by
  unfold tms
  rw [List.getElem?_map, List.getElem?_range h] <;> rfl
theorem tms_succ (t : Nat) : tms (t + 1) = tms t ++ [W47.tm t] := by
  unfold tms
  rw [List.range_succ, List.map_append] <;> rfl
theorem tms_len (t : Nat) : (tms t).length = t := by
  unfold tms
  rw [List.length_map, List.length_range]
section
variable {P : Program} {w : World} {K : PySem.W.Frag} {mg : Str → Option Value} {base : Heap}
theorem ok_want {qI : Str} {f C fI fW : Addr} {fd fdW : FuncData} {k : Nat} (F : Fun K "want_number" "want_number" sWant f fd) (FW : Fun K "is_within" "is_within" sWithin fW fdW) (GW : FnOk P w K mg base CX0 (k + 2) fW fdW ["value", "least", "most"] (spWithin K)) (bW : Binds K fdW ["value", "least", "most"] []) (gW : mg "is_within" = some (.ref fW))
    (T : PySem.PartX.PartTxt K mg "BadNumber" qI C fI) : FnOk P w K mg base (L2.CX P w) (k + 3) f fd ["value", "least", "most", "part"] (spWant K C) := by
  refine F.okX scWant (fun vs H Q E h => ?_) (fun cdv A outer s H vs Q E hr h => ?_)
  · obtain ⟨x, lo, hi, n, pt, rfl, _⟩ := h
    rfl
  · obtain ⟨x, lo, hi, n, pt, rfl, h7, hlo, hhi, hy, hn⟩ := h
    refine ⟨_, pss_one (ps_if (pt_not (pt_val (pe_call GW hr (by rfl) gW FW.kp bW .nil pass0 (pa_cons (pv 0) (pa_cons (pv 1) (pa_cons (pv 2) pa_nil)))))) (pss_one (ps_raisePart rfl T (k := k + 2) hr (takes_of rfl rfl rfl rfl) (pa_cons (pv 3) pa_nil) (by rfl) (by decide))) pss_nil), ?_⟩
    refine Evl.s_when (Evl.et_not (Evl.et_B (Evl.ev_call (Evl.ea_cons (Evl.ev_var rfl) (Evl.ea_cons (Evl.ev_var rfl) (Evl.ea_cons (Evl.ev_var rfl) Evl.ea_nil))) (spv_within h7 hlo hhi)))) (fun hb H1 e1 => ?_) (fun hb H1 e1 => ?_)
    · have hw : wi x lo hi = false := by
        cases q : wi x lo hi with
        | false => rfl
        | true =>
          rw [q] at hb
          cases hb
      exact ⟨.str pt, rfl, .str pt, rfl, fun d hd => hn hw H1 d e1 hd⟩
    · have hw : wi x lo hi = true := by
        cases q : wi x lo hi with
        | true => rfl
        | false =>
          rw [q] at hb
          cases hb
      exact hy hw H1 e1
theorem ok_plain {f C fN : Addr} {fd fdN : FuncData} {k : Nat} (F : Fun K "plain_word" "plain_word" sPlain f fd) (FN : Fun K "want_number" "want_number" sWant fN fdN) (GN : FnOk P w K mg base (L2.CX P w) k fN fdN ["value", "least", "most", "part"] (spWant K C)) (bN : Binds K fdN ["value", "least", "most", "part"] []) (gN : mg "want_number" = some (.ref fN))
    {tM : Tok} (gM : mg "MOST_SIGNS" = some (.int 2000 tM)) (mlen : mg "len" = none) (mtup : mg "tuple" = none) : FnOk P w K mg base (L2.CX P w) (k + 1) f fd ["many"] (spPlain K C) := by
  refine F.okX scPlain (fun vs H Q E h => ?_) (fun cdv A outer s H vs Q E hr h => ?_)
  · obtain ⟨x, n, rfl, _⟩ := h
    rfl
  · obtain ⟨x, n, rfl, h7, hy, hn⟩ := h
    have nd := scPlain.nd
    refine ⟨_, pss_cons (ps_expr (pe_callS GN hr (by rfl) gN FN.kp bN (fun σ => passAt (takes_of rfl rfl rfl rfl) σ) (pa_cons (pv 0) (pa_cons pe_int (pa_cons (pe_glob (v := .int 2000) (by rfl) gM ⟨_, rfl⟩) (pa_cons pe_str pa_nil))))))
      (PSs.nox (pss_cons (ps_set (i := 1) nd rfl (.inl rfl) (pe_lst pa_nil)) (pss_cons (ps_set (i := 2) nd rfl (.inl rfl) pe_int) (pss_cons (ps_set (i := 3) nd rfl (.inl rfl) (pe_lst (pa_cons pe_int pa_nil)))
      (pss_cons (ps_while PassesOwn.never (pt_cmpR op_lt (pe_callB call_len_seq (by rfl) mlen PySem.boot_len (pa_cons (pv 1) pa_nil)) (pv 0) (nomark _))
        (pss_cons (ps_set (i := 4) nd rfl (.inl rfl) (pe_callB call_len_seq (by rfl) mlen PySem.boot_len (pa_cons (pv 3) pa_nil)))
        (pss_cons (ps_expr (pe_bm PySem.F.plainAttrs_list PySem.F.slot_list_append PySem.F.type_list_append mt_append (pv 3) (pa_cons (pe_op op_modN (pe_op op_add (pe_ix ix_list (pv 3) (pe_op op_fdivN (pv 4) pe_int) (fun _ _ => rfl)) (pv 4)) pe_int) pa_nil)))
        (pss_one (ps_if (pt_cmpR op_eq (pe_ix ix_list (pv 3) (pv 4) (fun _ _ => rfl)) pe_int (nomark _)) (pss_one (ps_aug (i := 2) nd rfl (.inl rfl) pe_int ip_add))
          (pss_cons (ps_expr (pe_bm PySem.F.plainAttrs_list PySem.F.slot_list_append PySem.F.type_list_append mt_append (pv 1) (pa_cons (pv 2) pa_nil)))
          (pss_one (ps_set (i := 2) nd rfl (.inl rfl) pe_int))))))))
      (pss_one (ps_ret (pe_callTy call_tuple_of (by rfl) mtup (by decide +kernel) (pa_cons (pv 1) pa_nil))))))))), ?_⟩
    refine ⟨x, rfl, x, .int 0, .int 2000, n, "many", rfl, h7, trivial, trivial, fun hw H1 e1 => ?_, fun hw H1 d e1 hd => hn hw H1 d e1 hd⟩
    obtain ⟨m, rfl, hm⟩ : ∃ m : Nat, x = .int m ∧ m ≤ 2000 := by
      cases x with
      | int i =>
        have h2 : (decide ((0 : Int) ≤ i) && decide (i ≤ 2000)) = true := hw
        rw [Bool.and_eq_true_iff] at h2
        have a1 := of_decide_eq_true h2.1
        have a2 := of_decide_eq_true h2.2
        exact ⟨i.toNat, by rw [Int.toNat_of_nonneg a1], by omega⟩
      | _ => exact absurd hw (by intro z; cases z)
    refine Evl.q_asgL (xs := []) (Evl.el_lst Evl.ea_nil (Nat.zero_le _)) fun S H2 hS e2 hS2 => ?_
    refine Evl.q_asg Evl.ev_c fun H3 e3 => ?_
    refine Evl.q_asgL (xs := [.int 0]) (Evl.el_lst (Evl.ea_cons Evl.ev_c Evl.ea_nil) (by show 1 ≤ 100000; decide)) fun R H4 hR e4 hR4 => ?_
    have S0 : H S = none := Evl.fresh_back e1 hS
    have R0 : H R = none := Evl.fresh_back ((e1.trans e2).trans e3) hR
    have SR : S ≠ R := ne_of_none (e3 _ _ hS2) hR
    refine Evl.q_while (fun fu σ' H' => ∃ (t : Nat) (y4 : Option V), fu = 4000 - t ∧ t ≤ 4000 ∧ (W47.sg t).length ≤ m ∧ σ' = [some (.int (m : Int)), some (.ref S), some (.int ((W47.gs t).1 : Nat)), some (.ref R), y4] ∧ H' S = some (.lst (iv (W47.sg t))) ∧ H' R = some (.lst (iv (tms (t + 1)))) ∧ Evl.Ex H H') 4000 ⟨0, none, rfl, Nat.zero_le _, Nat.zero_le _, rfl, e4 _ _ (e3 _ _ hS2), hR4, ((e1.trans e2).trans e3).trans e4⟩ ?_
    rintro fu σ' H' ⟨t, y4, rfl, ht, hl, rfl, hSt, hRt, hE⟩
    refine ⟨decide (((iv (W47.sg t)).length : Int) < m), Evl.et_test (Evl.ev_op (Evl.ev_len (Evl.ev_var rfl) (Evl.sq_of hSt)) (Evl.ev_var rfl) Evl.rv_I0), fun hb H5 e5 => ?_, fun hb H5 e5 => ?_⟩
    · have hlt : (W47.sg t).length < m := by
        have := of_decide_eq_true hb
        rw [iv_len] at this
        omega
      have ht2 : t < 4000 := by
        rcases Nat.lt_or_ge t 4000 with z | z
        · exact z
        · have e : t = 4000 := by omega
          have z2 : (W47.sg t).length = 2000 := by rw [e]; exact W47.len_last
          omega
      refine ⟨fun σ2 H2 => ∃ (y4 : Option V), (W47.sg (t + 1)).length ≤ m ∧ σ2 = [some (.int (m : Int)), some (.ref S), some (.int ((W47.gs (t + 1)).1 : Nat)), some (.ref R), y4] ∧ H2 S = some (.lst (iv (W47.sg (t + 1)))) ∧ H2 R = some (.lst (iv (tms (t + 1 + 1)))) ∧ Evl.Ex H H2, fun σ2 H2 ⟨y, a1, a2, a3, a4, a5⟩ => ⟨4000 - (t + 1), by omega, t + 1, y, rfl, by omega, a1, a2, a3, a4, a5⟩, ?_⟩
      refine Evl.q_asg (v := .int ((t + 1 : Nat) : Int)) (Evl.ev_is (Evl.ev_len (Evl.ev_var rfl) (Evl.sq_of (e5 _ _ hRt))) (by rw [iv_len, tms_len])) fun H6 e6 => ?_
      have hR6 := e6 _ _ (e5 _ _ hRt)
      have hS6 := e6 _ _ (e5 _ _ hSt)
      refine Evl.q_app (v := .int ((W47.tm (t + 1) : Nat) : Int)) hR6 (Evl.ev_var rfl) (Evl.ev_is (Evl.ev_op (Evl.ev_op (Evl.ev_op (Evl.ev_var rfl) (Evl.ev_op (Evl.ev_var rfl) Evl.ev_c (Evl.rv_I ⟨by omega, by omega⟩)) (Evl.rv_ixL (Evl.sq_of hR6) (v := .int ((W47.tm ((t + 1) / 2) : Nat) : Int)) (by rw [fdiv2]; exact iv_at (tms_at (by omega))))) (Evl.ev_var rfl) Evl.rv_I0) Evl.ev_c (Evl.rv_I (by decide))) (by rw [fmod2, ← W47.tm_rec (by omega) (by omega)])) (by rw [iv_len, tms_len]; omega) fun H7 e7 => ?_
      have e57 : Evl.Ex H H7 := ((hE.trans e5).trans e6).trans e7
      have eR : iv (tms (t + 1)) ++ [V.int ((W47.tm (t + 1) : Nat) : Int)] = iv (tms (t + 1 + 1)) := by
        rw [tms_succ (t + 1), iv_app] <;> rfl
      rw [eR]
      have hR8 : (upd H7 R (.lst (iv (tms (t + 1 + 1))))) R = some (.lst (iv (tms (t + 1 + 1)))) := upd_same
      have hS8 : (upd H7 R (.lst (iv (tms (t + 1 + 1))))) S = some (.lst (iv (W47.sg t))) := by rw [upd_ne SR]; exact e7 _ _ hS6
      have hE8 : Evl.Ex H (upd H7 R (.lst (iv (tms (t + 1 + 1))))) := e57.mut R0
      generalize upd H7 R (.lst (iv (tms (t + 1 + 1)))) = H8 at hR8 hS8 hE8 ⊢
      refine Evl.s_if (b := decide (V.int ((W47.tm (t + 1) : Nat) : Int) = V.int 1)) (Evl.et_test (Evl.ev_op (Evl.ev_op (Evl.ev_var rfl) (Evl.ev_var rfl) (Evl.rv_ixL (Evl.sq_of hR8) (iv_at (tms_at (by omega))))) Evl.ev_c (Evl.rv_eq rfl))) (fun hb2 H9 e9 => ?_) (fun hb2 H9 e9 => ?_)
      · have h1 : W47.tm (t + 1) = 1 := by
          have := V.int.inj (of_decide_eq_true hb2)
          omega
        obtain ⟨g1, g2⟩ := W47.sg_succ1 h1
        refine Evl.s_aug (f := fun a b => a + b) rfl Evl.ev_c fun H10 e10 => ⟨some (.int ((t + 1 : Nat) : Int)), by rw [g2]; omega, ?_, ?_, e10 _ _ (e9 _ _ hR8), (hE8.trans e9).trans e10⟩
        · rw [g1]
          rfl
        · rw [g2]
          exact e10 _ _ (e9 _ _ hS8)
      · have h1 : W47.tm (t + 1) ≠ 1 := fun z => by
          rw [z] at hb2
          cases hb2
        obtain ⟨g1, g2⟩ := W47.sg_succ0 h1
        refine Evl.q_app (e9 _ _ hS8) (Evl.ev_var rfl) (Evl.ev_var rfl) (by rw [iv_len]; omega) fun H10 e10 => ?_
        refine Evl.s_asg Evl.ev_c fun H11 e11 => ⟨some (.int ((t + 1 : Nat) : Int)), by rw [g2, List.length_append, List.length_singleton]; omega, ?_, ?_, ?_, (((hE8.trans e9).trans e10).mut S0).trans e11⟩
        · rw [g1]
          rfl
        · refine e11 _ _ ?_
          rw [upd_same, g2, iv_app]
          rfl
        · refine e11 _ _ ?_
          rw [upd_ne SR.symm]
          exact e10 _ _ (e9 _ _ hR8)
    · have hlen : (W47.sg t).length = m := by
        have := of_decide_eq_false hb
        rw [iv_len] at this
        omega
      refine Evl.s_retU (xs := iv (W47.sg t)) (eu_tuple (Evl.ev_var rfl) (Evl.sq_of (e5 _ _ hSt))) fun p H6 hp e6 h6 => ?_
      refine hy m rfl hm p H6 (Evl.fresh_back (hE.trans e5) hp) ((hE.trans e5).trans e6) ?_
      rw [h6, W47.take_W ht, hlen]
end
end P51
end S_Ti
section S_Hm
namespace W52
/-- the colour of the place i of a line -/
def lc (i : Nat) : Nat := if i % 3 = 2 then 3 else W47.W2.getD (i - i / 3) 0
def LC (n : Nat) : List Nat := (List.range n).map lc
/-- a sign 3 behind each two -/
def inter : List Nat → List Nat
  | a :: b :: r => a :: b :: 3 :: inter r
  | l => l
def L405 : List Nat := [2, 1, 3, 0, 2, 3, 0, 1, 3, 2, 1, 3, 0, 1, 3, 2, 0, 3, 2, 1, 3, 0, 2, 3, 0, 1, 3, 2, 0, 3, 2, 1, 3, 0, 1, 3, 2, 1, 3, 0, 2, 3, 0, 1, 3, 2, 1, 3, 0, 1, 3, 2, 0, 3, 2, 1, 3, 0, 1, 3, 2, 1, 3, 0, 2, 3, 0, 1, 3, 2, 0, 3, 2, 1, 3, 0, 2, 3, 0, 1, 3, 2, 1, 3, 0, 1, 3, 2, 0, 3, 2, 1, 3, 0, 2, 3, 0, 1, 3, 2, 0, 3, 2, 1, 3, 0, 1, 3, 2, 1, 3, 0, 2, 3, 0, 1, 3, 2, 0, 3, 2, 1, 3, 0, 2, 3, 0, 1, 3, 2, 1, 3, 0, 1, 3, 2, 0, 3, 2, 1, 3, 0, 1, 3, 2, 1, 3, 0, 2, 3, 0, 1, 3, 2, 1, 3, 0, 1, 3, 2, 0, 3, 2, 1, 3, 0, 2, 3, 0, 1, 3, 2, 0, 3, 2, 1, 3, 0, 1, 3, 2, 1, 3, 0, 2, 3, 0, 1, 3, 2, 1, 3, 0, 1, 3, 2, 0, 3, 2, 1, 3, 0, 1, 3, 2, 1, 3, 0, 2, 3, 0, 1, 3, 2, 0, 3, 2, 1, 3, 0, 2, 3, 0, 1, 3, 2, 1, 3, 0, 1, 3, 2, 0, 3, 2, 1, 3, 0, 1, 3, 2, 1, 3, 0, 2, 3, 0, 1, 3, 2, 1, 3, 0, 1, 3, 2, 0, 3, 2, 1, 3, 0, 2, 3, 0, 1, 3, 2, 0, 3, 2, 1, 3, 0, 1, 3, 2, 1, 3, 0, 2, 3, 0, 1, 3, 2, 0, 3, 2, 1, 3, 0, 2, 3, 0, 1, 3, 2, 1, 3, 0, 1, 3, 2, 0, 3, 2, 1, 3, 0, 2, 3, 0, 1, 3, 2, 0, 3, 2, 1, 3, 0, 1, 3, 2, 1, 3, 0, 2, 3, 0, 1, 3, 2, 1, 3, 0, 1, 3, 2, 0, 3, 2, 1, 3, 0, 1, 3, 2, 1, 3, 0, 2, 3, 0, 1, 3, 2, 0, 3, 2, 1, 3, 0, 2, 3, 0, 1, 3, 2, 1, 3, 0, 1, 3, 2, 0, 3, 2, 1, 3, 0, 2, 3, 0, 1, 3, 2, 0, 3, 2, 1, 3, 0, 1, 3, 2, 1, 3, 0, 2, 3, 0, 1, 3]
theorem l405 : inter (W47.W2.take 270) = L405 := by decide +kernel
theorem free405 : W47.freeOk L405 202 = true := by decide +kernel
def noAba : List Nat → Bool
  | a :: b :: c :: r => !decide (a = c) && noAba (b :: c :: r)
  | _ => true
theorem aba405 : noAba L405 = true := by decide +kernel
theorem inter_at : ∀ (l : List Nat) (i : Nat), i < l.length + l.length / 2 → (inter l)[i]? = some (if i % 3 = 2 then 3 else l.getD (i - i / 3) 0)
  | [], i, h => by cases h
  | [a], i, h => by
    have : i = 0 := by simp at h; omega
    subst this; rfl
  | a :: b :: r, i, h => by
    rw [inter]
    match i with
    | 0 => rfl
    | 1 => rfl
    | 2 => rfl
    | j + 3 =>
      rw [List.getElem?_cons_succ, List.getElem?_cons_succ, List.getElem?_cons_succ, inter_at r j (by simp only [List.length_cons] at h; omega)]
      rw [show (j + 3) % 3 = j % 3 by omega]
      split
      · rfl
      · rw [show j + 3 - (j + 3) / 3 = (j - j / 3) + 1 + 1 by omega]
        rfl
theorem lc_at {i : Nat} (h : i < 405) : L405[i]? = some (lc i) := by
  rw [← l405, inter_at _ _ (by rw [List.length_take, W47.len_last]; show i < 270 + 270 / 2; omega)]
  unfold lc
  split
  · rfl
  · congr 1
    rw [List.getD_eq_getElem?_getD, List.getD_eq_getElem?_getD, List.getElem?_take_of_lt (by omega)]
theorem LC_len (n : Nat) : (LC n).length = n := by unfold LC; rw [List.length_map, List.length_range]
theorem LC_at {n i : Nat} (h : i < n) : (LC n)[i]? = some (lc i) := by unfold LC; rw [List.getElem?_map, List.getElem?_range h]; rfl
/-- the same as integers -/
def zs (l : List Nat) : List Int := l.map fun n : Nat => (n : Int)
theorem zs_at {l : List Nat} {i x : Nat} (h : l[i]? = some x) : (zs l).getD i 0 = (x : Int) := by
  unfold zs
  rw [List.getD_eq_getElem?_getD, List.getElem?_map, h]
  rfl
theorem ro (w : List Int) (half : Nat) : ∀ (l : List Bool) (j : Nat), W47.runOk half l (W48.run w half j) = true → (∀ i, i < l.length → l[i]? = some (decide (W48.M w half (j + i)))) → ∀ i, i < l.length → W48.run w half (j + i + 1) ≠ half
  | [], _, _, _, i, hi => by cases hi
  | b :: r, j, h, hl, i, hi => by
    have eb : b = decide (W48.M w half j) := Option.some.inj (hl 0 (Nat.zero_lt_succ _))
    have e : (if b = true then W48.run w half j + 1 else 0) = W48.run w half (j + 1) := by
      rw [W48.run, eb]
      by_cases q : W48.M w half j
      · rw [if_pos q, if_pos (decide_eq_true q)]
      · rw [if_neg q, if_neg (fun z => q (of_decide_eq_true z))]
    unfold W47.runOk at h
    rw [e, Bool.and_eq_true_iff] at h
    cases i with
    | zero =>
      intro z
      have h1 := h.1
      rw [Nat.add_zero] at z
      rw [z, beq_self_eq_true] at h1
      cases h1
    | succ i =>
      have := ro w half r (j + 1) h.2 (fun i hi => by
        have q := hl (i + 1) (Nat.succ_lt_succ hi)
        rw [List.getElem?_cons_succ] at q
        rw [q, show j + 1 + i = j + (i + 1) by omega]) i (Nat.lt_of_succ_lt_succ hi)
      rwa [show j + (i + 1) + 1 = j + 1 + i + 1 by omega]
theorem free_half : ∀ {n : Nat} {w : List Nat}, W47.freeOk w n = true → ∀ h, 1 ≤ h → h ≤ n → W47.halfOk w h = true
  | 0, _, _, h, h1, h2 => by omega
  | n + 1, w, f, h, h1, h2 => by
    unfold W47.freeOk at f
    rw [Bool.and_eq_true_iff] at f
    by_cases e : h = n + 1
    · rw [e]; exact f.2
    · exact free_half f.1 h h1 (by omega)
theorem len405 : L405.length = 405 := by decide +kernel
/-- no repeat among the first 405 colours -/
theorem no_rep (b h : Nat) : ¬ W48.Rep (zs L405) b h := fun hr => by
  have lz : (zs L405).length = 405 := by unfold zs; rw [List.length_map, len405]
  obtain ⟨h1, h2, h3⟩ := hr
  rw [lz] at h2
  have hf := free_half free405 h h1 (by omega)
  unfold W47.halfOk at hf
  have lzz : (List.zipWith (· == ·) L405 (L405.drop h)).length = 405 - h := by
    rw [List.length_zipWith, List.length_drop, len405]
    omega
  refine W48.no_rep (m := 405 - h) h1 (fun i hi => ?_) (b := b) (by omega) h3
  have := ro (zs L405) h _ 0 hf (fun j hj => by
    rw [lzz] at hj
    rw [List.getElem?_zipWith, lc_at (by omega), List.getElem?_drop, lc_at (by omega), Nat.zero_add]
    have eM : W48.M (zs L405) h j ↔ lc j = lc (h + j) := by
      unfold W48.M
      rw [zs_at (lc_at (i := h + j) (by omega)), zs_at (lc_at (i := j) (by omega))]
      omega
    show some (lc j == lc (h + j)) = _
    congr 1
    by_cases z : lc j = lc (h + j)
    · rw [beq_iff_eq.mpr z, decide_eq_true (eM.mpr z)]
    · rw [beq_eq_false_iff_ne.mpr z, decide_eq_false fun y => z (eM.mp y)]) i (by rw [lzz]; omega)
  rwa [Nat.zero_add] at this
theorem aba_at : ∀ (l : List Nat) (i x y : Nat), noAba l = true → l[i]? = some x → l[i + 2]? = some y → x ≠ y
  | a :: b :: c :: r, 0, x, y, h, hx, hy => by
    cases hx; cases hy
    unfold noAba at h
    rw [Bool.and_eq_true_iff] at h
    intro z
    rw [z, decide_eq_true rfl] at h
    exact absurd h.1 (by decide)
  | a :: b :: c :: r, i + 1, x, y, h, hx, hy => by
    unfold noAba at h
    rw [Bool.and_eq_true_iff] at h
    exact aba_at (b :: c :: r) i x y h.2 hx hy
  | [], i, x, y, h, hx, hy => by cases hx
  | [a], i, x, y, h, hx, hy => by
    rw [List.getElem?_eq_none (by simp)] at hy
    cases hy
  | [a, b], i, x, y, h, hx, hy => by
    rw [List.getElem?_eq_none (by simp)] at hy
    cases hy
/-- a word that is calm as colours of a line -/
def Calm (ws : List Int) : Prop := (∀ b h, ¬ W48.Rep ws b h) ∧ ∀ i, i + 2 < ws.length → ws.getD i 0 ≠ ws.getD (i + 2) 0
/-- the colours from begin on -/
def cut (b n : Nat) : List Int := zs ((List.range n).map fun i => lc (b + i))
theorem cut_len (b n : Nat) : (cut b n).length = n := by unfold cut zs; rw [List.length_map, List.length_map, List.length_range]
theorem cut_at {b n i : Nat} (h : i < n) : (cut b n).getD i 0 = (lc (b + i) : Int) := by
  unfold cut
  exact zs_at (by rw [List.getElem?_map, List.getElem?_range h]; rfl)
theorem calm_cut {b n : Nat} (h : b + n ≤ 405) : Calm (cut b n) := by
  refine ⟨fun x y hr => no_rep (b + x) y ?_, fun i hi => ?_⟩
  · obtain ⟨h1, h2, h3⟩ := hr
    rw [cut_len] at h2
    refine ⟨h1, by unfold zs; rw [List.length_map, len405]; omega, fun j hj => ?_⟩
    have := h3 j hj
    unfold W48.M at this ⊢
    rw [cut_at (by omega), cut_at (by omega)] at this
    rw [zs_at (lc_at (by omega)), zs_at (lc_at (by omega))]
    rw [show b + (y + (x + j)) = y + (b + x + j) by omega, show b + (x + j) = b + x + j by omega] at this
    exact this
  · rw [cut_len] at hi
    rw [cut_at (by omega), cut_at (by omega)]
    have := aba_at L405 (b + i) _ _ aba405 (lc_at (by omega)) (lc_at (by omega))
    rw [show b + (i + 2) = b + i + 2 by omega]
    omega
end W52
end S_Hm
section S_Tj
namespace P51
open PySem PySem.Spec PyProof.Rows L2 Tl Hk
abbrev sTooI : Stmt := inClass sManyC 0
theorem scTooI : FnScope ["self", "what", "most"] ["self", "what", "most"] (defScope sTooI) := ⟨rfl, rfl, rfl, by decide +kernel, rfl, by decide +kernel, by decide +kernel⟩
theorem scWantLine : FnScope ["colours"] ["colours"] (defScope sWantLine) := ⟨rfl, rfl, rfl, by decide +kernel, rfl, by decide +kernel, by decide +kernel⟩
theorem scLineRow : FnScope ["many", "signs", "at"] ["many"] (defScope sLineRow) := ⟨rfl, rfl, rfl, by decide +kernel, rfl, by decide +kernel, by decide +kernel⟩
theorem scLineCol : FnScope ["many"] ["many"] (defScope sLineCol) := ⟨rfl, rfl, rfl, by decide +kernel, rfl, by decide +kernel, by decide +kernel⟩
/-! ### TooMany -/
def spTooI (C : Addr) : Sp := fun vs H Q _ => ∃ (a : Addr) (x y : V), vs = [.ref a, x, y] ∧ H a = some (exo a C none) ∧ ∀ dx H', H dx = none → dx ≠ a → (∀ b o, b ≠ a → H b = some o → H' b = some o) → H' a = some (exo a C (some dx)) → H' dx = some (exd dx [("most", y), ("what", x)]) → Q .non H'
section
variable {P : Program} {w : World} {K : PySem.W.Frag} {mg : Str → Option Value} {base : Heap}
theorem ok_tooI {f C : Addr} {oc od osl : _} {kV doc pm cdv ct : Value} {an : Option Addr} {k : Nat} (T : OexC K C) (n1 : PySem.W.findIn K (.ref C) "what" = some none) (n2 : PySem.W.findIn K (.ref C) "most" = some none)
    (lk : K.lookup f = some ⟨oc, od, .func (PySem.W.fnOf "__init__" "TooMany.__init__" (defArgs sTooI) (defBody sTooI) (defScope sTooI) .none kV doc pm an cdv ct), osl⟩) (hcd : PySem.W.codeIn K cdv "TooMany.__init__" = true) :
    FnOk P w K mg base CX0 (k + 1) f (PySem.W.fnOf "__init__" "TooMany.__init__" (defArgs sTooI) (defBody sTooI) (defScope sTooI) .none kV doc pm an cdv ct) ["self", "what", "most"] (spTooI C) := by
  refine fn_of lk hcd scTooI (fun {vs H Q E} h => ?_) (fun A outer s H vs Q E hr h => ?_)
  · obtain ⟨a, x, y, rfl, _⟩ := h
    rfl
  · obtain ⟨a, x, y, rfl, ha, q⟩ := h
    refine ⟨_, pss_cons (ps_ost (pv 0) (pv 1)) (pss_one (ps_ost (pv 0) (pv 2))), ?_⟩
    refine ⟨x, rfl, .ref a, rfl, a, C, rfl, T, n1, .inl ⟨ha, fun dx hd dne => ?_⟩⟩
    have ad : dx ≠ a := dne
    refine ⟨y, rfl, .ref a, rfl, a, C, rfl, T, n2, .inr ⟨dx, _, upd_same, by rw [upd_ne ad, upd_same], by show 1 ≤ 900; decide, ?_⟩⟩
    refine q dx _ hd dne (fun b o hb h => ?_) (by rw [upd_ne ad.symm, upd_same]) upd_same
    rw [upd_ne (ne_of_none h hd), upd_ne hb, upd_ne (ne_of_none h hd)]
    exact h
end
structure TPap (K : PySem.W.Frag) (C : Addr) : Prop where
  cl : Cls K C
  nW : NoAttr K C "word"
  nP : NoAttr K C "parts"
theorem putF_len (f : Str) (v : V) : ∀ fs : List (Str × V), (putF f v fs).length ≤ fs.length + 1
  | [] => Nat.le_refl _
  | (g, y) :: r => by
    unfold putF
    split
    · simp
    · have := putF_len f v r
      simp
      omega
theorem pe_nv {X : Cx} {e : Expr} : PE X e (fun _ _ _ => False) := ⟨fun _ _ _ _ _ _ h => h.elim⟩
theorem go_elRet {r : List V → Hp → VK → Prop} {te : TE} {D : Ends} {σ : L2.St} {H : Hp} {xs : List V} (h : Evl.EvL te σ H xs) (k : ∀ p H1, H p = none → Evl.Ex H H1 → H1 p = some (.lst xs) → r [.ref p] H1 D.rt) : tRet (tCB r (tCons te tNil)) D σ H := h H (Evl.Ex.refl H) _ k
end P51
end S_Tj
section S_Wj
namespace Hk
open PySem PySem.Spec PyProof.Rows L2 Tl RZ
theorem walk_zipT {K : PySem.W.Frag} {a b : Addr} {xs ys : List V} {n : Nat} (hn : n = min xs.length ys.length) : Walk (ItzT K a b) n (fun H => SqT K H a xs ∧ SqT K H b ys) (YPair (fun i => xs[i]?) (fun i => ys[i]?)) := by
  subst hn
  refine ⟨fun i _ hi ⟨q1, q2⟩ => ?_, fun _ ⟨q1, q2⟩ => ⟨xs, ys, q1, q2, by omega⟩, fun i H v H' _ ⟨q1, q2⟩ ⟨T, x, z, z1, z2, z3, z4, z5⟩ => ⟨T, x, z, z1, z2, z3, z4 xs q1, z5 ys q2⟩⟩
  have l1 : i < xs.length := by omega
  have l2 : i < ys.length := by omega
  exact ⟨xs, ys, xs[i], ys[i], q1, q2, by simp [l1], by simp [l2]⟩
theorem aims_pair {K : PySem.W.Frag} {xs ys : List V} {n j1 j2 : Nat} : Aims (gTup K 2 (gCons (gName j1) (gCons (gName j2) gNil))) n (YPair (fun i => xs[i]?) (fun i => ys[i]?))
    (fun i σ => (σ.set j1 (some (xs.getD i .non))).set j2 (some (ys.getD i .non))) := fun i σ H v H' hi y => by
  obtain ⟨T, x, y, rfl, hT, rfl, h1, h2⟩ := y
  have h1 : xs[i]? = some x := h1
  have h2 : ys[i]? = some y := h2
  obtain rfl : xs.getD i .non = x := by rw [List.getD_eq_getElem?_getD, h1]; rfl
  obtain rfl : ys.getD i .non = y := by rw [List.getD_eq_getElem?_getD, h2]; rfl
  exact ⟨Evl.Ex.new hT, fun Q q => ⟨T, _, rfl, Evl.st_of upd_same, rfl, _, _, rfl, _, _, rfl, rfl, q⟩⟩
section
open Evl
variable {K : PySem.W.Frag} {σ : L2.St} {H : Hp} {ta tb te : TE}
theorem ei_zipL {a : Addr} {xs ys : List V} {n : Nat} (hn : n = min xs.length ys.length) (h : Ev ta σ H (.ref a)) (hx : SqL K H a xs) (h2 : EvL tb σ H ys) : EvI (iZipA K (tCons ta (tCons tb tNil))) σ H n (YPair (fun i => xs[i]?) (fun i => ys[i]?)) := fun H1 e R k =>
  h H1 e _ fun H2 e2 => h2 H2 (e.trans e2) _ fun p H3 hp e3 h3 => ⟨a, p, xs, ys, rfl, .inl ⟨ex_l ((e.trans e2).trans e3) hx, sq_of h3, k _ _ H3 (e2.trans e3) (walk_zip hn) fun A ab s => ⟨ex_l ab hx, sq_of (s p _ (fresh_back e2 hp) h3)⟩⟩⟩
theorem ei_zipT {a : Addr} {xs ys : List V} {n : Nat} (hn : n = min xs.length ys.length) (h : Ev ta σ H (.ref a)) (hx : SqT K H a xs) (h2 : EvU tb σ H ys) : EvI (iZipA K (tCons ta (tCons tb tNil))) σ H n (YPair (fun i => xs[i]?) (fun i => ys[i]?)) := fun H1 e R k =>
  h H1 e _ fun H2 e2 => h2 H2 (e.trans e2) _ fun p H3 hp e3 h3 => ⟨a, p, xs, ys, rfl, .inr ⟨ex_t ((e.trans e2).trans e3) hx, st_of h3, k _ _ H3 (e2.trans e3) (walk_zipT hn) fun A ab s => ⟨ex_t ab hx, st_of (s p _ (fresh_back e2 hp) h3)⟩⟩⟩
/-- a tuple's items from the second on: a new tuple -/
theorem eu_slFrom1 {tl : TO} {a : Addr} {xs : List V} (h : Ev te σ H (.ref a)) (h2 : EvO tl σ H (some (1 : Int))) (hs : SqT K H a xs) (hn : 1 ≤ xs.length) : EvU (tSl (rSlA K) te tl tNoPart) σ H (xs.drop 1) := fun H1 e Q q =>
  h H1 e _ fun H2 e2 => h2 H2 (e.trans e2) _ fun H4 e4 => by
    have ec : cutV xs (some ((1 : Nat) : Int)) none = xs.drop 1 := by
      unfold cutV
      rw [HT.sIx_nat, HT.sIx_none, Nat.min_eq_left hn, List.take_of_length_le (by rw [List.length_drop]; omega)]
    refine ⟨a, xs, rfl, ex_t ((e.trans e2).trans e4) hs, fun hw => ?_, fun _ p hp => ?_⟩
    · have e1 := hw.1
      rw [show (1 : Int) = ((1 : Nat) : Int) from rfl, HT.sIx_nat, Nat.min_eq_left hn] at e1
      exact absurd e1 (by decide)
    · rw [show (1 : Int) = ((1 : Nat) : Int) from rfl, ec]
      exact q p _ (fresh_back (e2.trans e4) hp) ((e2.trans e4).trans (Ex.new hp)) upd_same
end
section
variable {t : TT} {tu tw : TS} {D : Ends} {σ : L2.St} {H : Hp}
/-- a for over a range that may be empty, its bound below 0 -/
theorem s_forR1n {ta : TA} {j : Nat} {n : Int} (h : Evl.EvA ta σ H [.int n]) (hn : -100000 ≤ n ∧ n ≤ 100000) (Pv : Nat → L2.St → Hp → Prop) (h0 : ∀ H1, Evl.Ex H H1 → Pv 0 σ H1)
    (hs : ∀ (i : Nat) σ' H', (i : Int) < n → Pv i σ' H' → tu { D with nx := Pv (i + 1), ct := Pv (i + 1), bk := D.nx } (σ'.set j (some (.int (i : Int)))) H') (hd : ∀ σ' H', Pv n.toNat σ' H' → D.nx σ' H') : tFor (iRng1 ta) (gName j) tu D σ H :=
  h H (Evl.Ex.refl H) _ fun G e => ⟨n, rfl, by omega, by omega, for_range (lo := 0) (n := n.toNat) Pv (h0 G e) (fun i σ1 G1 hi p => by
    have z : (0 : Int) + (i : Int) = (i : Int) := Int.zero_add _
    show tu { D with nx := Pv (i + 1), ct := Pv (i + 1), bk := D.nx } (σ1.set j (some (.int ((0 : Int) + (i : Int))))) G1
    rw [z]
    exact hs i σ1 G1 (by omega) p) hd⟩
theorem q_forR1n {tz : TS} {ta : TA} {j : Nat} {n : Int} (h : Evl.EvA ta σ H [.int n]) (hn : -100000 ≤ n ∧ n ≤ 100000) (Pv : Nat → L2.St → Hp → Prop) (h0 : ∀ H1, Evl.Ex H H1 → Pv 0 σ H1)
    (hs : ∀ (i : Nat) σ' H', (i : Int) < n → Pv i σ' H' → tu { D with nx := Pv (i + 1), ct := Pv (i + 1), bk := tz D } (σ'.set j (some (.int (i : Int)))) H') (hd : ∀ σ' H', Pv n.toNat σ' H' → tz D σ' H') : tSeq (tFor (iRng1 ta) (gName j) tu) tz D σ H :=
  s_forR1n (D := { D with nx := tz D }) h hn Pv h0 hs hd
end
end Hk
end S_Wj
section S_Tl
namespace P51
open PySem PySem.Spec PyProof.Rows L2 Tl Hk
/-- what a written global constant tells -/
def spLineRow : Sp := fun vs H Q _ => ∃ m : Nat, vs = [.int m] ∧ m ≤ 2000 ∧ ∀ p H1, H p = none → Evl.Ex H H1 → H1 p = some (.tup (iv (W52.LC m))) → Q (.ref p) H1
def spLineCol (K : PySem.W.Frag) (C : Addr) : Sp := fun vs H Q E => ∃ (x : V) (n : String), vs = [x] ∧ Ty7 K H x n ∧ (∀ m : Nat, x = .int m → m ≤ 2000 → ∀ p H1, H p = none → Evl.Ex H H1 → H1 p = some (.tup (iv (W52.LC m))) → Q (.ref p) H1) ∧
  (wi x (.int 0) (.int 2000) = false → ∀ H1 d, Evl.Ex H H1 → H1 d = none → E (.ref C) (some d) (upd H1 d (.xd [(("part" : Str), .str "many")])))
def spWantLine (K : PySem.W.Frag) (CC CM : Addr) : Sp := fun vs H Q E => ∃ (x : V) (b : Bool), vs = [x] ∧ RowR K H (.int 0) .non x b ∧
  (b = true → ∃ (a : Addr) (xs : List V), x = .ref a ∧ SqS K H a xs ∧ xs.length ≤ 4000 ∧ (xs.length ≤ 400 → ∀ H1, Evl.Ex H H1 → Q .non H1) ∧
    (400 < xs.length → ∀ H1 d, Evl.Ex H H1 → H1 d = none → E (.ref CM) (some d) (upd H1 d (.xd [(("most" : Str), .int 400), (("what" : Str), .str "colours")])))) ∧
  (b = false → ∀ H1 d, Evl.Ex H H1 → H1 d = none → E (.ref CC) (some d) (upd H1 d (.xd [(("part" : Str), .str "colours")])))
theorem fdivN (a b : Nat) : (a : Int).fdiv (b : Int) = ((a / b : Nat) : Int) := by
  rw [Int.fdiv_eq_ediv_of_nonneg _ (by omega)]
  exact (Int.natCast_ediv a b).symm
theorem fmodN (a b : Nat) : (a : Int).fmod (b : Int) = ((a % b : Nat) : Int) := by
  rw [Int.fmod_eq_emod_of_nonneg _ (by omega)]
  exact (Int.natCast_emod a b).symm
theorem W_at {m i : Nat} (h : i < m) (hm : m ≤ 2000) : atI (iv (W47.W2.take m)) (i : Int) = some (.int ((W47.W2.getD i 0 : Nat) : Int)) := by
  refine iv_at ?_
  rw [List.getElem?_take_of_lt h, List.getD_eq_getElem?_getD, List.getElem?_eq_getElem (by rw [W47.len_last]; omega)] <;> rfl
abbrev teLine (K : PySem.W.Frag) : TE := tIf (tTest (tOp rEq (tOp (rI (fun _ j => j ≠ 0) fun i j => V.int (i.fmod j)) (tVar 2) (tC (.int 3))) (tC (.int 2)))) (tC (.int 3)) (tOp (rIxT K) (tVar 1) (tOp (rI0 fun i j => V.int (i - j)) (tVar 2) (tOp (rI CDivN fun i j => V.int (i.fdiv j)) (tVar 2) (tC (.int 3)))))
section
variable {P : Program} {w : World} {K : PySem.W.Frag} {mg : Str → Option Value} {base : Heap}
theorem ok_lineRow {f C fP : Addr} {fd fdP : FuncData} {k : Nat} (F : Fun K "line_row" "line_row" sLineRow f fd)
    (FP : Fun K "plain_word" "plain_word" sPlain fP fdP) (GP : FnOk P w K mg base (L2.CX P w) k fP fdP ["many"] (spPlain K C)) (bP : Binds K fdP ["many"] []) (gP : mg "plain_word" = some (.ref fP))
    {tM : Tok} (gM : mg "FURTHER_SIGN" = some (.int 3 tM)) (mrange : mg "range" = none) (mtup : mg "tuple" = none) : FnOk P w K mg base (L2.CX P w) (k + 1) f fd ["many"] spLineRow := by
  refine F.okX scLineRow (fun vs H Q E h => ?_) (fun cdv A outer s H vs Q E hr h => ?_)
  · obtain ⟨m, rfl, _⟩ := h
    rfl
  · obtain ⟨m, rfl, hm, q⟩ := h
    have nd := scLineRow.nd
    refine ⟨_, PSs.nox (pss_cons (ps_set (i := 1) nd rfl (.inr rfl) (pe_call GP hr (by rfl) gP FP.kp bP .nil passF (pa_cons (pe_op op_sub (pv 0) (pe_op op_fdivN (pv 0) pe_int)) pa_nil)))
      (pss_one (ps_ret (pe_callTy call_tuple_of (by rfl) mtup (by decide +kernel) (pa_cons
        (pe_lc (own := [("at", 2)]) (g := gName 2) (tt := tYes) (te := teLine K) rfl nd (pi_range1 (by rfl) mrange (pa_cons (pv 0) pa_nil)) (blkOk_by (N := ["many", "signs", "at"]) (sc := defScope sLineRow) (by decide +kernel)) (fun _ _ _ _ _ => pg_name (i := 2) nd rfl (Or.inl rfl)) (fun _ _ _ _ _ => pts_nil)
          (fun _ _ _ _ _ => pe_ifExp (pt_cmpR op_eq (pe_op op_modN (pv 2) pe_int) pe_int (nomark _)) (pe_glob (v := .int 3) (by rfl) gM ⟨_, rfl⟩) (pe_ix ix_tup (pv 1) (pe_op op_sub (pv 2) (pe_op op_fdivN (pv 2) pe_int)) (fun _ _ => rfl)))) pa_nil))))), ?_⟩
    have ediv : ((m : Int) - (m : Int).fdiv 3) = ((m - m / 3 : Nat) : Int) := by
      rw [show (3 : Int) = ((3 : Nat) : Int) from rfl, fdivN]
      omega
    refine Evl.q_asgU (xs := iv (W47.W2.take (m - m / 3))) (fun H1 e Q' q' => ⟨.int m, rfl, .int m, rfl, (m : Int), 3, rfl, rfl, ⟨by omega, by omega⟩, (m : Int), _, rfl, rfl, .int ((m - m / 3 : Nat) : Int), "int", (by show [V.int ((m : Int) - (m : Int).fdiv 3)] = _; rw [ediv]), .int _, fun m' e' hm' p H2 hp e2 h2 => ?_, fun hw => ?_⟩) fun p H1 hp e1 h1 => ?_
    · obtain rfl : m' = m - m / 3 := by
        have := V.int.inj e'
        omega
      exact q' p H2 hp e2 h2
    · exfalso
      have h2 : (decide ((0 : Int) ≤ ((m - m / 3 : Nat) : Int)) && decide (((m - m / 3 : Nat) : Int) ≤ 2000)) = false := hw
      rw [decide_eq_true (by omega), decide_eq_true (by omega)] at h2
      cases h2
    · refine go_elRet (xs := iv (W52.LC m)) ?_ fun l H2 hl e2 h2 => ⟨l, _, rfl, .inl ⟨Evl.sq_of h2, fun t ht => q t _ (Evl.fresh_back (e1.trans e2) ht) ((e1.trans e2).trans (Evl.Ex.new ht)) upd_same⟩⟩
      have hh := el_lcI (te := teLine K)
        (t := tYes) (σ := [some (.int (m : Int)), some (.ref p), none]) (H := H1) (vs := [2]) (fun _ => true) (fun i => V.int ((W52.lc i : Nat) : Int)) (ei_rng1c (j := (m : Int)) (n := m) (by omega) (Evl.ea_cons (Evl.ev_var (i := 0) rfl) Evl.ea_nil) (by omega) (by omega)) (aims_fn (j := 2)) (fun _ => rfl) (by omega) (fun _ _ _ _ => et_yes) fun i H2 e2 hi _ => by
        have ei : (0 : Int) + (i : Int) = (i : Int) := Int.zero_add _
        refine Evl.ev_if (b := decide (V.int ((i % 3 : Nat) : Int) = V.int 2)) (Evl.et_test (Evl.ev_op (Evl.ev_is (Evl.ev_op (Evl.ev_var rfl) Evl.ev_c (Evl.rv_I (by decide))) (by rw [ei, show (3 : Int) = ((3 : Nat) : Int) from rfl, fmodN])) Evl.ev_c (Evl.rv_eq rfl))) (fun hb => ?_) fun hb => ?_
        · have := V.int.inj (of_decide_eq_true hb)
          refine Evl.ev_is Evl.ev_c ?_
          unfold W52.lc
          rw [if_pos (by omega)] <;> rfl
        · have h3 : ¬ i % 3 = 2 := fun z => of_decide_eq_false hb (by rw [z]; rfl)
          refine Evl.ev_is (Evl.ev_op (Evl.ev_var rfl) (Evl.ev_op (Evl.ev_var rfl) (Evl.ev_op (Evl.ev_var rfl) Evl.ev_c (Evl.rv_I ⟨by omega, by omega⟩)) Evl.rv_I0) (Evl.rv_ixT (Evl.st_of (e2 _ _ h1)) (v := .int ((W47.W2.getD (i - i / 3) 0 : Nat) : Int)) ?_)) ?_
          · rw [ei, show (3 : Int) = ((3 : Nat) : Int) from rfl, fdivN, show (i : Int) - ((i / 3 : Nat) : Int) = ((i - i / 3 : Nat) : Int) by omega]
            exact W_at (by omega) (by omega)
          · unfold W52.lc
            rw [if_neg h3]
      have ee : Evl.given m (fun _ => true) (fun i => V.int ((W52.lc i : Nat) : Int)) = iv (W52.LC m) := by
        unfold Evl.given iv W52.LC
        rw [List.map_map, List.filter_eq_self.mpr (fun _ _ => rfl)]
        rfl
      rw [ee] at hh
      exact hh
theorem ok_lineCol {f C fN fR : Addr} {fd fdN fdR : FuncData} {k : Nat} (F : Fun K "line_colours" "line_colours" sLineCol f fd)
    (FN : Fun K "want_number" "want_number" sWant fN fdN) (GN : FnOk P w K mg base (L2.CX P w) k fN fdN ["value", "least", "most", "part"] (spWant K C)) (bN : Binds K fdN ["value", "least", "most", "part"] []) (gN : mg "want_number" = some (.ref fN))
    (FR : Fun K "line_row" "line_row" sLineRow fR fdR) (GR : FnOk P w K mg base (L2.CX P w) k fR fdR ["many"] spLineRow) (bR : Binds K fdR ["many"] []) (gR : mg "line_row" = some (.ref fR))
    {tM : Tok} (gM : mg "MOST_PLACES" = some (.int 2000 tM)) : FnOk P w K mg base (L2.CX P w) (k + 1) f fd ["many"] (spLineCol K C) := by
  refine F.okX scLineCol (fun vs H Q E h => ?_) (fun cdv A outer s H vs Q E hr h => ?_)
  · obtain ⟨x, n, rfl, _⟩ := h
    rfl
  · obtain ⟨x, n, rfl, h7, hy, hn⟩ := h
    refine ⟨_, pss_cons (ps_expr (pe_callS GN hr (by rfl) gN FN.kp bN (fun σ => passAt (takes_of rfl rfl rfl rfl) σ) (pa_cons (pv 0) (pa_cons pe_int (pa_cons (pe_glob (v := .int 2000) (by rfl) gM ⟨_, rfl⟩) (pa_cons pe_str pa_nil))))))
      (PSs.nox (pss_one (ps_ret (pe_call GR hr (by rfl) gR FR.kp bR .nil passF (pa_cons (pv 0) pa_nil))))), ?_⟩
    refine ⟨x, rfl, x, .int 0, .int 2000, n, "many", rfl, h7, trivial, trivial, fun hw H1 e1 => ?_, fun hw H1 d e1 hd => hn hw H1 d e1 hd⟩
    obtain ⟨m, rfl, hm⟩ : ∃ m : Nat, x = .int m ∧ m ≤ 2000 := by
      cases x with
      | int i =>
        have h2 : (decide ((0 : Int) ≤ i) && decide (i ≤ 2000)) = true := hw
        rw [Bool.and_eq_true_iff] at h2
        have a1 := of_decide_eq_true h2.1
        have a2 := of_decide_eq_true h2.2
        exact ⟨i.toNat, by rw [Int.toNat_of_nonneg a1], by omega⟩
      | _ => exact absurd hw (by intro z; cases z)
    exact ⟨.int m, rfl, m, rfl, hm, fun p H2 hp e2 h2 => hy m rfl hm p H2 (Evl.fresh_back e1 hp) (e1.trans e2) h2⟩
theorem del_upd {H : Hp} {d : Addr} {o : HO} : upd (fun b => if b = d then none else H b) d o = upd H d o := by
  funext b
  by_cases z : b = d
  · rw [z, upd_same, upd_same]
  · rw [upd_ne z, upd_ne z, if_neg z]
theorem ok_wantLine {qI : Str} {f CC CM fI fTI fW : Addr} {fd fdTI fdW : FuncData} {k : Nat} (F : Fun K "_want_line" "_want_line" sWantLine f fd)
    (FW : Fun K "is_word" "is_word" sIsWord fW fdW) (GW : FnOk P w K mg base CX0 (k + 2) fW fdW ["value"] (spWord K)) (bW : Binds K fdW ["value"] []) (gW : mg "is_word" = some (.ref fW))
    (T : PySem.PartX.PartTxt K mg "BadColours" qI CC fI) (TM : OexC K CM) (iCM : PySem.W.findIn K (.ref CM) "__init__" = some (some (.ref fTI))) (tI : PySem.W.typeIn K (.ref fTI) = some (.type "function")) (GI : FnOk P w K mg base CX0 (k + 1) fTI fdTI ["self", "what", "most"] (spTooI CM)) (bI : Binds K fdTI ["self", "what", "most"] []) (gCM : mg "TooMany" = some (.ref CM))
    {tM : Tok} (gM : mg "MOST_TO_JUDGE" = some (.int 400 tM)) (mlen : mg "len" = none) : FnOk P w K mg base (L2.CX P w) (k + 3) f fd ["colours"] (spWantLine K CC CM) := by
  refine F.okX scWantLine (fun vs H Q E h => ?_) (fun cdv A outer s H vs Q E hr h => ?_)
  · obtain ⟨x, b, rfl, _⟩ := h
    rfl
  · obtain ⟨x, b, rfl, h7, hy, hn⟩ := h
    refine ⟨_, pss_cons (ps_if (pt_not (pt_val (pe_call GW hr (by rfl) gW FW.kp bW .nil pass0 (pa_cons (pv 0) pa_nil)))) (pss_one (ps_raisePart rfl T (k := k + 2) hr (takes_of rfl rfl rfl rfl) (pa_cons pe_str pa_nil) (by rfl) (by decide))) pss_nil)
      (pss_one (ps_if (pt_cmpR op_gt (pe_callB call_len_seq (by rfl) mlen PySem.boot_len (pa_cons (pv 0) pa_nil)) (pe_glob (v := .int 400) (by rfl) gM ⟨_, rfl⟩) (nomark _))
        (pss_one (ps_raise rfl (takes_of rfl rfl rfl rfl) (pmk_oex TM iCM tI GI hr bI .nil (fun _ _ _ _ _ _ _ c => False.elim c) (by rfl) gCM (pa_cons pe_str (pa_cons (pe_glob (v := .int 400) (by rfl) gM ⟨_, rfl⟩) pa_nil))))) pss_nil)), ?_⟩
    refine Evl.q_when (Evl.et_not (Evl.et_B (Evl.ev_call (Evl.ea_cons (Evl.ev_var rfl) Evl.ea_nil) (spv_word h7)))) (fun hb H1 e1 => ?_) (fun hb H1 e1 => ?_)
    · have hw : b = false := by cases b with | false => rfl | true => cases hb
      exact ⟨.str "colours", rfl, fun d hd => hn hw H1 d e1 hd⟩
    · have hw : b = true := by cases b with | true => rfl | false => cases hb
      obtain ⟨a, xs, rfl, hS, hz, q1, q2⟩ := hy hw
      refine Evl.s_when (b := decide ((400 : Int) < (xs.length : Int))) (Evl.et_test (Evl.ev_op (ev_lenS (Evl.ev_var rfl) (hS.ex e1)) Evl.ev_c Evl.rv_I0)) (fun hb2 H2 e2 => ?_) (fun hb2 H2 e2 => ?_)
      · have hl : 400 < xs.length := by
          have := of_decide_eq_true hb2
          omega
        refine ⟨by show 2 ≤ 1000; decide, fun a' ha' => ⟨a', .str "colours", .int 400, rfl, upd_same, fun dx H' hdx dne hk hH' hD => ⟨rfl, dx, _, hH', hD, ?_, ?_⟩⟩⟩
        · rw [upd_ne dne] at hdx
          exact hdx
        · have hda : H2 dx = none := by rw [upd_ne dne] at hdx; exact hdx
          have eG : upd (del H' a') dx (.xd [(("most" : Str), V.int 400), (("what" : Str), V.str "colours")]) = upd (fun b => if b = dx then none else del H' a' b) dx (.xd [(("most" : Str), V.int 400), (("what" : Str), V.str "colours")]) := del_upd.symm
          rw [eG]
          refine q2 hl (fun b => if b = dx then none else del H' a' b) dx (fun b o ho => ?_) (if_pos rfl)
          have ho2 := e2 _ _ (e1 _ _ ho)
          have nd : b ≠ dx := fun z => by rw [z, hda] at ho2; cases ho2
          have na : b ≠ a' := fun z => by rw [z, ha'] at ho2; cases ho2
          dsimp only
          rw [if_neg nd, del_ne na]
          exact hk b o na (by rw [upd_ne na]; exact ho2)
      · refine q1 ?_ H2 (e1.trans e2)
        have := of_decide_eq_false hb2
        omega
end
end P51
end S_Tl
section S_Tn
namespace P51
open PySem PySem.Spec PyProof.Rows L2 Tl Hk RZ
/-- a value, and what it holds if it is a list -/
inductive ValR (K : PySem.W.Frag) (H : Hp) : V → Option (List V) → Prop where
  | no {x : V} {n : String} (h : Ty7 K H x n) (h1 : n ≠ "list") (h2 : n ≠ "tuple") : ValR K H x none
  | lst {a : Addr} {xs : List V} (h : SqL K H a xs) (hl : xs.length ≤ 4000) (hi : ∀ v ∈ xs, ∃ n, Ty7 K H v n) : ValR K H (.ref a) (some xs)
  | tup {a : Addr} {xs : List V} (h : SqT K H a xs) (hl : xs.length ≤ 4000) (hi : ∀ v ∈ xs, ∃ n, Ty7 K H v n) : ValR K H (.ref a) (some xs)
theorem ValR.ex {K : PySem.W.Frag} {H H' : Hp} {x : V} {o : Option (List V)} (h : ValR K H x o) (e : Evl.Ex H H') : ValR K H' x o := by
  cases h with
  | no h h1 h2 => exact .no (h.ex e) h1 h2
  | lst h hl hi => exact .lst (Evl.ex_l e h) hl fun v hv => (hi v hv).imp fun n hn => hn.ex e
  | tup h hl hi => exact .tup (Evl.ex_t e h) hl fun v hv => (hi v hv).imp fun n hn => hn.ex e
def iV : V → Int
  | .int i => i
  | _ => 0
def stepsB (xs : List V) : Bool := (List.range (xs.length - 1)).all fun i => decide ((iV (xs.getD i .non) - iV (xs.getD (i + 1) .non)).natAbs ≤ 1)
def inB (m : Nat) (xs : List V) : Bool := xs.all fun v => wi v (.int 0) (.int ((m : Int) - 1))
/-- whether it is a walk on a line of m places -/
def lineB (m : Nat) : Option (List V) → Bool
  | none => false
  | some xs => inB m xs && (decide (1 ≤ xs.length) && stepsB xs)
def spLineWalk (K : PySem.W.Frag) (C : Addr) : Sp := fun vs H Q E => ∃ (x y : V) (n : String), vs = [x, y] ∧ Ty7 K H y n ∧ (∀ m : Nat, y = .int m → ∃ o, ValR K H x o ∧ ∀ H1, Evl.Ex H H1 → Q (.bl (lineB m o)) H1) ∧
  (wi y (.int 0) .non = false → ∀ H1 d, Evl.Ex H H1 → H1 d = none → E (.ref C) (some d) (upd H1 d (.xd [(("part" : Str), .str "many")])))
theorem scLineWalk : FnScope ["value", "many", "one", "other"] ["value", "many"] (defScope sLineWalk) := ⟨rfl, rfl, rfl, by decide +kernel, rfl, by decide +kernel, by decide +kernel⟩
theorem scStrayWalk : FnScope ["colours", "repeat", "begin", "half", "at"] ["colours"] (defScope sStrayWalk) := ⟨rfl, rfl, rfl, by decide +kernel, rfl, by decide +kernel, by decide +kernel⟩
theorem scJudged : FnScope ["colours", "walk"] ["colours"] (defScope sJudged) := ⟨rfl, rfl, rfl, by decide +kernel, rfl, by decide +kernel, by decide +kernel⟩
abbrev teStep : TE := tOp (rI0 fun i j => V.bl (decide (i ≤ j))) (tCB (fun xs H Q => ∃ i, xs = [V.int i] ∧ Q (V.int (if i < 0 then -i else i)) H) (tCons (tOp (rI0 fun i j => V.int (i - j)) (tVar 2) (tVar 3)) tNil)) (tC (.int 1))
theorem pt_nv {X : Cx} {e : Expr} : PT X e (fun _ _ _ => False) := ⟨fun _ _ _ _ _ _ h => h.elim⟩
theorem inB_at {m : Nat} {xs : List V} (h : inB m xs = true) {i : Nat} (hi : i < xs.length) : ∃ z : Int, xs.getD i .non = .int z ∧ 0 ≤ z ∧ z < m := by
  have := List.all_eq_true.mp h (xs[i]) (List.getElem_mem hi)
  have e : xs.getD i .non = xs[i] := by rw [List.getD_eq_getElem?_getD, List.getElem?_eq_getElem hi] <;> rfl
  rw [e]
  cases q : xs[i] with
  | int z =>
    rw [q] at this
    have h2 : (decide ((0 : Int) ≤ z) && decide (z ≤ (m : Int) - 1)) = true := this
    rw [Bool.and_eq_true_iff] at h2
    exact ⟨z, rfl, of_decide_eq_true h2.1, by have := of_decide_eq_true h2.2; omega⟩
  | _ => rw [q] at this; exact absurd this (by intro z; cases z)
theorem steps_given {m : Nat} {xs : List V} (h : inB m xs = true) : (Evl.given (xs.length - 1) (fun _ => true) fun i => V.bl (decide ((iV (xs.getD i .non) - iV (xs.getD (i + 1) .non)).natAbs ≤ 1))) = ((List.range (xs.length - 1)).map fun i => decide ((iV (xs.getD i .non) - iV (xs.getD (i + 1) .non)).natAbs ≤ 1)).map V.bl := by
  unfold Evl.given
  rw [List.map_map, List.filter_eq_self.mpr (fun _ _ => rfl)]
  rfl
theorem steps_all (xs : List V) : ((List.range (xs.length - 1)).map fun i => decide ((iV (xs.getD i .non) - iV (xs.getD (i + 1) .non)).natAbs ≤ 1)).all id = stepsB xs := by
  rw [List.all_map]
  rfl
theorem el_slFrom1 {K : PySem.W.Frag} {te : TE} {σ : L2.St} {H : Hp} {tl : TO} {a : Addr} {xs : List V} (h : Evl.Ev te σ H (.ref a)) (h2 : Evl.EvO tl σ H (some (1 : Int))) (hs : SqL K H a xs) : Evl.EvL (tSl (rSlL K) te tl tNoPart) σ H (xs.drop 1) := by
  rw [← cutFrom]
  exact Evl.el_sl h h2 Evl.eo_none hs
theorem ev_lenT {K : PySem.W.Frag} {ta : TE} {σ : L2.St} {H : Hp} {p : Addr} {xs : List V} (ha : Evl.Ev ta σ H (.ref p)) (h : SqT K H p xs) : Evl.Ev (tCB (Evl.rLenS K) (tCons ta tNil)) σ H (.int (xs.length : Int)) := fun H1 e Q q =>
  ha H1 e _ fun H2 e2 => ⟨p, xs, rfl, .inr (Evl.ex_t (e.trans e2) h), q H2 e2⟩
section
variable {P : Program} {w : World} {K : PySem.W.Frag} {mg : Str → Option Value} {base : Heap}
theorem step_ev {m : Nat} {xs : List V} (h : inB m xs = true) {i : Nat} {σ : L2.St} {H : Hp} (hi : i + 1 < xs.length) (h2 : σ[2]? = some (some (xs.getD i .non))) (h3 : σ[3]? = some (some (xs.getD (i + 1) .non))) :
    Evl.Ev teStep σ H (.bl (decide ((iV (xs.getD i .non) - iV (xs.getD (i + 1) .non)).natAbs ≤ 1))) := by
  obtain ⟨z, e1, z1, z2⟩ := inB_at h (i := i) (by omega)
  obtain ⟨u, e2, u1, u2⟩ := inB_at h (i := i + 1) hi
  rw [e1] at h2 ⊢
  rw [e2] at h3 ⊢
  refine Evl.ev_is (Evl.ev_op (ev_abs (Evl.ev_op (Evl.ev_var h2) (Evl.ev_var h3) Evl.rv_I0)) Evl.ev_c Evl.rv_I0) ?_
  show V.bl (decide ((if z - u < 0 then -(z - u) else z - u) ≤ 1)) = V.bl (decide ((z - u).natAbs ≤ 1))
  congr 1
  refine decide_eq_decide.mpr ?_
  split <;> omega
theorem ok_lineWalk {f C fN fR : Addr} {fd fdN fdR : FuncData} {k : Nat} (F : Fun K "is_line_walk" "is_line_walk" sLineWalk f fd)
    (FN : Fun K "want_number" "want_number" sWant fN fdN) (GN : FnOk P w K mg base (L2.CX P w) k fN fdN ["value", "least", "most", "part"] (spWant K C)) (bN : Binds K fdN ["value", "least", "most", "part"] []) (gN : mg "want_number" = some (.ref fN))
    (FR : Fun K "is_row" "is_row" sRow fR fdR) (GR : FnOk P w K mg base CX0 k fR fdR ["value", "least", "most"] (spRow K)) (bR : Binds K fdR ["value", "least", "most"] []) (gR : mg "is_row" = some (.ref fR))
    (mlen : mg "len" = none) (mall : mg "all" = none) (mabs : mg "abs" = none) (mzip : mg "zip" = none) : FnOk P w K mg base (L2.CX P w) (k + 1) f fd ["value", "many"] (spLineWalk K C) := by
  refine F.okX scLineWalk (fun vs H Q E h => ?_) (fun cdv A outer s H vs Q E hr h => ?_)
  · obtain ⟨x, y, n, rfl, _⟩ := h
    rfl
  · obtain ⟨x, y, n, rfl, h7, hy, hn⟩ := h
    have nd := scLineWalk.nd
    have pw : ∀ {X : Cx}, True := fun {_} => trivial
    have wn : ∀ z : Int, wi (.int z) (.int 0) .non = true ↔ 0 ≤ z := fun z => by
      show (decide ((0 : Int) ≤ z) && true) = true ↔ _
      rw [Bool.and_true]
      exact decide_eq_true_iff
    by_cases hw : wi y (.int 0) .non = false
    · refine ⟨_, pss_cons (ps_expr (pe_callS GN hr (by rfl) gN FN.kp bN (fun σ => passAt (takes_of rfl rfl rfl rfl) σ) (pa_cons (pv 1) (pa_cons pe_int (pa_cons pe_non (pa_cons pe_str pa_nil)))))) pss_never, ?_⟩
      refine ⟨y, rfl, y, .int 0, .non, n, "many", rfl, h7, trivial, trivial, ?_, ?_⟩
      · intro hw2
        rw [hw] at hw2
        cases hw2
      · intro _ H1 d e1 hd
        exact hn hw H1 d e1 hd
    · have hw : wi y (.int 0) .non = true := by
        cases q : wi y (.int 0) .non with
        | true => rfl
        | false => exact absurd q hw
      obtain ⟨m, rfl⟩ : ∃ m : Nat, y = .int m := by
        cases y with
        | int z => exact ⟨z.toNat, by rw [Int.toNat_of_nonneg ((wn z).mp hw)]⟩
        | _ => exact absurd hw (by intro z; cases z)
      obtain ⟨o, ho, q⟩ := hy m rfl
      have rowE : ∀ {H1 : Hp} {b : Bool}, Evl.Ex H H1 → RowR K H (.int 0) (.int ((m : Int) - 1)) x b → Evl.Ev (tCall (spRow K) [] E0 (tCons (tVar 0) (tCons (tC (.int 0)) (tCons (tOp (rI0 fun i j => V.int (i - j)) (tVar 1) (tC (.int 1))) tNil)))) [some x, some (.int (m : Int)), none, none] H1 (.bl b) := fun {H1 b} e1 hR =>
        Evl.ev_call (Evl.ea_cons (Evl.ev_var rfl) (Evl.ea_cons Evl.ev_c (Evl.ea_cons (Evl.ev_op (Evl.ev_var rfl) Evl.ev_c Evl.rv_I0) Evl.ea_nil))) fun H2 e2 Q' q' E' => ⟨x, .int 0, .int ((m : Int) - 1), b, rfl, hR.ex (e1.trans e2), trivial, trivial, q'⟩
      have start1 : ∀ {ts : TS}, (∀ H1, Evl.Ex H H1 → ts { nx := fun _ H' => Q .non H', rt := Q } [some x, some (.int (m : Int)), none, none] H1) → tSeq (tDrop (tCallS (spWant K C) (fun σ => WE (fun cls d _ H => E cls d H) σ) (tCons (tVar 1) (tCons (tC (.int 0)) (tCons (tC .non) (tCons (tC (.str "many")) tNil)))))) ts { nx := fun _ H' => Q .non H', rt := Q } [some x, some (.int (m : Int)), none, none] H := fun {ts} k =>
        ⟨.int m, rfl, .int m, .int 0, .non, n, "many", rfl, h7, trivial, trivial, fun _ H1 e1 => k H1 e1, fun hw2 => by rw [hw] at hw2; cases hw2⟩
      cases ho with
      | @no x n' h1 h2 h3 =>
        refine ⟨_, pss_cons (ps_expr (pe_callS GN hr (by rfl) gN FN.kp bN (fun σ => passAt (takes_of rfl rfl rfl rfl) σ) (pa_cons (pv 1) (pa_cons pe_int (pa_cons pe_non (pa_cons pe_str pa_nil))))))
          (PSs.nox (pss_cons (ps_if (PW.pt (pw_or (pt_not (pt_val (pe_call GR hr (by rfl) gR FR.kp bR .nil pass0 (pa_cons (pv 0) (pa_cons pe_int (pa_cons (pe_op op_sub (pv 1) pe_int) pa_nil)))))) (pw_or1 pt_nv))) (pss_one (ps_ret pe_bl)) pss_nil) pss_never)), ?_⟩
        refine start1 fun H1 e1 => ?_
        refine Evl.q_when (b := true) (Evl.et_or (a := true) (b := false) (Evl.et_is (Evl.et_not (Evl.et_B (rowE e1 (.no h1 h2 h3)))) rfl) fun z => nomatch z) (fun _ H2 e2 => ?_) (fun z => nomatch z)
        exact Evl.s_ret Evl.ev_c fun H3 e3 => q H3 ((e1.trans e2).trans e3)
      | @lst a xs hS hl hi0 =>
        refine ⟨_, pss_cons (ps_expr (pe_callS GN hr (by rfl) gN FN.kp bN (fun σ => passAt (takes_of rfl rfl rfl rfl) σ) (pa_cons (pv 1) (pa_cons pe_int (pa_cons pe_non (pa_cons pe_str pa_nil))))))
          (PSs.nox (pss_cons (ps_if (PW.pt (pw_or (pt_not (pt_val (pe_call GR hr (by rfl) gR FR.kp bR .nil pass0 (pa_cons (pv 0) (pa_cons pe_int (pa_cons (pe_op op_sub (pv 1) pe_int) pa_nil)))))) (pw_or1 (pt_cmpR op_eq (pe_callB call_len_seq (by rfl) mlen PySem.boot_len (pa_cons (pv 0) pa_nil)) pe_int (nomark _))))) (pss_one (ps_ret pe_bl)) pss_nil)
          (pss_one (ps_ret (pe_callB (cr_all rfl) (by rfl) mall (by decide +kernel) (pa_cons
            (pe_lc (own := [("one", 2), ("other", 3)]) (g := gTup K 2 (gCons (gName 2) (gCons (gName 3) gNil))) (tt := tYes) (te := teStep) rfl nd (pi_zipA (by rfl) mzip (pa_cons (pv 0) (pa_cons (pe_slice sl_list (pv 0) (po_some pe_int) po_none) pa_nil))) (blkOk_by (N := ["value", "many", "one", "other"]) (sc := defScope sLineWalk) (by decide +kernel))
              (fun _ _ _ _ _ => pg_tup (by rfl) (pgs_cons (pg_name (i := 2) nd rfl (Or.inl rfl)) (pgs_cons (pg_name (i := 3) nd rfl (Or.inl rfl)) pgs_nil))) (fun _ _ _ _ _ => pts_nil)
              (fun _ _ _ _ _ => pe_cmpR op_le (pe_callB call_abs (by rfl) mabs (by decide +kernel) (pa_cons (pe_op op_sub (pv 2) (pv 3)) pa_nil)) pe_int (nomark _))) pa_nil)))))), ?_⟩
        refine start1 fun H1 e1 => ?_
        refine Evl.q_when (b := !inB m xs || decide (V.int (xs.length : Int) = V.int 0)) (Evl.et_or (Evl.et_not (Evl.et_B (rowE e1 (.lst hS hl hi0)))) fun _ => Evl.et_test (Evl.ev_op (Evl.ev_len (Evl.ev_var rfl) (Evl.ex_l e1 hS)) Evl.ev_c (Evl.rv_eq rfl))) (fun hb H2 e2 => ?_) (fun hb H2 e2 => ?_)
        · have er : lineB m (some xs) = false := by
            show (inB m xs && (decide (1 ≤ xs.length) && stepsB xs)) = false
            rcases (Bool.or_eq_true_iff.mp hb) with z | z
            · rw [show inB m xs = false from by cases q : inB m xs with | false => rfl | true => rw [q] at z; cases z]
              rfl
            · have z2 : xs.length = 0 := by have := V.int.inj (of_decide_eq_true z); omega
              rw [decide_eq_false (by omega), Bool.false_and, Bool.and_false]
          exact Evl.s_ret Evl.ev_c fun H3 e3 => er ▸ q H3 ((e1.trans e2).trans e3)
        · obtain ⟨z1, z2⟩ := Bool.or_eq_false_iff.mp hb
          have hin : inB m xs = true := by cases q : inB m xs with | true => rfl | false => rw [q] at z1; cases z1
          have hlen : 1 ≤ xs.length := by
            rcases Nat.eq_zero_or_pos xs.length with z | z
            · exact absurd (by rw [z]; rfl) (of_decide_eq_false z2)
            · exact z
          refine Evl.s_ret (v := .bl (lineB m (some xs))) (Evl.ev_is (ev_allN (bs := (List.range (xs.length - 1)).map fun i => decide ((iV (xs.getD i .non) - iV (xs.getD (i + 1) .non)).natAbs ≤ 1)) ?_) ?_) fun H3 e3 => q H3 ((e1.trans e2).trans e3)
          · rw [← steps_given hin]
            refine el_lcI (te := teStep) (t := tYes) (σ := [some (.ref a), some (.int (m : Int)), none, none]) (vs := [2, 3]) (fun _ => true) _ (ei_zipL (xs := xs) (ys := xs.drop 1) (by rw [List.length_drop]; omega) (Evl.ev_var (i := 0) rfl) (Evl.ex_l ((e1.trans e2)) hS) (el_slFrom1 (Evl.ev_var (i := 0) rfl) (Evl.eo_some Evl.ev_c) (Evl.ex_l (e1.trans e2) hS))) (aims_pair (j1 := 2) (j2 := 3)) (fun _ => rfl) (by omega) (fun _ _ _ _ => et_yes) fun i H3 e3 hi _ => ?_
            refine step_ev hin (by omega) rfl ?_
            show some (some ((xs.drop 1).getD i .non)) = some (some (xs.getD (i + 1) .non))
            rw [List.getD_eq_getElem?_getD, List.getElem?_drop, List.getD_eq_getElem?_getD, Nat.add_comm 1 i]
          · rw [steps_all]
            show V.bl (true && stepsB xs) = V.bl (inB m xs && (decide (1 ≤ xs.length) && stepsB xs))
            rw [hin, decide_eq_true hlen, Bool.true_and, Bool.true_and]
      | @tup a xs hS hl hi0 =>
        refine ⟨_, pss_cons (ps_expr (pe_callS GN hr (by rfl) gN FN.kp bN (fun σ => passAt (takes_of rfl rfl rfl rfl) σ) (pa_cons (pv 1) (pa_cons pe_int (pa_cons pe_non (pa_cons pe_str pa_nil))))))
          (PSs.nox (pss_cons (ps_if (PW.pt (pw_or (pt_not (pt_val (pe_call GR hr (by rfl) gR FR.kp bR .nil pass0 (pa_cons (pv 0) (pa_cons pe_int (pa_cons (pe_op op_sub (pv 1) pe_int) pa_nil)))))) (pw_or1 (pt_cmpR op_eq (pe_callB call_len_seq (by rfl) mlen PySem.boot_len (pa_cons (pv 0) pa_nil)) pe_int (nomark _))))) (pss_one (ps_ret pe_bl)) pss_nil)
          (pss_one (ps_ret (pe_callB (cr_all rfl) (by rfl) mall (by decide +kernel) (pa_cons
            (pe_lc (own := [("one", 2), ("other", 3)]) (g := gTup K 2 (gCons (gName 2) (gCons (gName 3) gNil))) (tt := tYes) (te := teStep) rfl nd (pi_zipA (by rfl) mzip (pa_cons (pv 0) (pa_cons (pe_slice sl_tupA (pv 0) (po_some pe_int) po_none) pa_nil))) (blkOk_by (N := ["value", "many", "one", "other"]) (sc := defScope sLineWalk) (by decide +kernel))
              (fun _ _ _ _ _ => pg_tup (by rfl) (pgs_cons (pg_name (i := 2) nd rfl (Or.inl rfl)) (pgs_cons (pg_name (i := 3) nd rfl (Or.inl rfl)) pgs_nil))) (fun _ _ _ _ _ => pts_nil)
              (fun _ _ _ _ _ => pe_cmpR op_le (pe_callB call_abs (by rfl) mabs (by decide +kernel) (pa_cons (pe_op op_sub (pv 2) (pv 3)) pa_nil)) pe_int (nomark _))) pa_nil)))))), ?_⟩
        refine start1 fun H1 e1 => ?_
        refine Evl.q_when (b := !inB m xs || decide (V.int (xs.length : Int) = V.int 0)) (Evl.et_or (Evl.et_not (Evl.et_B (rowE e1 (.tup hS hl hi0)))) fun _ => Evl.et_test (Evl.ev_op (ev_lenT (Evl.ev_var rfl) (Evl.ex_t e1 hS)) Evl.ev_c (Evl.rv_eq rfl))) (fun hb H2 e2 => ?_) (fun hb H2 e2 => ?_)
        · have er : lineB m (some xs) = false := by
            show (inB m xs && (decide (1 ≤ xs.length) && stepsB xs)) = false
            rcases (Bool.or_eq_true_iff.mp hb) with z | z
            · rw [show inB m xs = false from by cases q : inB m xs with | false => rfl | true => rw [q] at z; cases z]
              rfl
            · have z2 : xs.length = 0 := by have := V.int.inj (of_decide_eq_true z); omega
              rw [decide_eq_false (by omega), Bool.false_and, Bool.and_false]
          exact Evl.s_ret Evl.ev_c fun H3 e3 => er ▸ q H3 ((e1.trans e2).trans e3)
        · obtain ⟨z1, z2⟩ := Bool.or_eq_false_iff.mp hb
          have hin : inB m xs = true := by cases q : inB m xs with | true => rfl | false => rw [q] at z1; cases z1
          have hlen : 1 ≤ xs.length := by
            rcases Nat.eq_zero_or_pos xs.length with z | z
            · exact absurd (by rw [z]; rfl) (of_decide_eq_false z2)
            · exact z
          refine Evl.s_ret (v := .bl (lineB m (some xs))) (Evl.ev_is (ev_allN (bs := (List.range (xs.length - 1)).map fun i => decide ((iV (xs.getD i .non) - iV (xs.getD (i + 1) .non)).natAbs ≤ 1)) ?_) ?_) fun H3 e3 => q H3 ((e1.trans e2).trans e3)
          · rw [← steps_given hin]
            refine el_lcI (te := teStep) (t := tYes) (σ := [some (.ref a), some (.int (m : Int)), none, none]) (vs := [2, 3]) (fun _ => true) _ (ei_zipT (xs := xs) (ys := xs.drop 1) (by rw [List.length_drop]; omega) (Evl.ev_var (i := 0) rfl) (Evl.ex_t ((e1.trans e2)) hS) (eu_slFrom1 (Evl.ev_var (i := 0) rfl) (Evl.eo_some Evl.ev_c) (Evl.ex_t (e1.trans e2) hS) hlen)) (aims_pair (j1 := 2) (j2 := 3)) (fun _ => rfl) (by omega) (fun _ _ _ _ => et_yes) fun i H3 e3 hi _ => ?_
            refine step_ev hin (by omega) rfl ?_
            show some (some ((xs.drop 1).getD i .non)) = some (some (xs.getD (i + 1) .non))
            rw [List.getD_eq_getElem?_getD, List.getElem?_drop, List.getD_eq_getElem?_getD, Nat.add_comm 1 i]
          · rw [steps_all]
            show V.bl (true && stepsB xs) = V.bl (inB m xs && (decide (1 ≤ xs.length) && stepsB xs))
            rw [hin, decide_eq_true hlen, Bool.true_and, Bool.true_and]
end
end P51
end S_Tn
section S_Xh
namespace EnL
open PySem PySem.Spec PyProof.Rows L2 Tl
/-! ### == and != by an own __eq__, whatever it says -/
section
variable {prog : Program} {w : World} {A : Around} {E : Value → Shared → Prop} {s : Shared} {K : PySem.W.Frag} {x C f L : Addr} {h₀ : Heap} {m : Str → Option Value} {ox : Obj} {od : Option Obj} {b tb : Value}
theorem check_slotK {M : Model} {id owner n : String} {rest : List Value} {Q : Unit → Shared → Prop} (hk : builtinKind id = some .slot) (hs : splitId id = some (owner, n)) (ha : argsOk id ⟨.ref x :: rest, []⟩)
    (X : K.In s.heap) (I : PySem.W.InstAt s.heap x ox C od) (hm : PySem.W.mroIn K C (.type owner) = some true) (hq : Q () s) : wpAny M A (checkBuiltinCall id ⟨.ref x :: rest, []⟩) Q E s := by
  simp only [checkBuiltinCall, hk, hs]
  refine wpAny_bind ?_
  unfold isInstance
  refine wpAny_bind (I.type.here ?_)
  refine (PySem.W.looks_mroIn X hm).here ?_
  cases hsig : Manifest.signature? id with
  | none => exact wpAny_pure hq
  | some sig =>
    simp only [argsOk, hsig] at ha
    have h2 : Bind.checkArgs id sig ⟨.ref x :: rest, []⟩ = pure () := ha
    show wpAny M A (Bind.checkArgs id sig ⟨.ref x :: rest, []⟩) Q E _
    rw [h2]; exact wpAny_pure hq
theorem ifBound_ne {M : Model} {Q : Option Value → Shared → Prop} (X : K.In s.heap) (I : PySem.W.InstAt s.heap x ox C od) (hs : PySem.W.findIn K (.ref C) "__ne__" = some (some (.builtin "object.__ne__")))
    (h : wpAny M A (call (.builtin "object.__ne__") [.ref x, b]) (fun v => Q (some v)) E s) : wpAny M A (callSpecialIfBound? (.ref x) "__ne__" [b]) Q E s := by
  simp only [callSpecialIfBound?, bindSpecialIfBound?]
  refine wpAny_holding (wpAny_bind (wpAny_bind (wpAny_bind (I.type.here ((PySem.W.looks_findIn X hs).here ?_)))))
  refine wpAny_bind (wpAny_askSetting (wpAny_ite ?_))
  have fin : wpAny M A (call (.builtin "object.__ne__") ([.ref x] ++ [b]) >>= fun v => pure (some v)) Q E s := wpAny_bind (wpAny_mono h (fun v s' h' => wpAny_pure h') fun _ _ h' => h')
  split
  · rw [F.cmp_object.ne.bind]
    exact wpAny_bind (wpAny_pure (wpAny_pure (by exact fin)))
  · refine wpAny_tryCatch ?_
    rw [F.cmp_object.ne.bind]
    exact wpAny_bind (wpAny_pure (wpAny_pure (by exact fin)))
theorem ne_entryK {Q : Fin → Shared → Prop} (X : K.In s.heap) (I : PySem.W.InstAt s.heap x ox C od) (hu : A.units < cLine) (hs : PySem.W.findIn K (.ref C) "__eq__" = some (some (.ref f))) (hf : PySem.W.isFn K (.ref f) = true)
    (hcall : wpAny (model prog w) A (call (.ref f) [.ref x, b]) (fun v s' => ∃ k, v = .bool k ∧ Q (.done (.ret (.bool (!k)))) s') E s) :
    wpAny (model prog w) A (Builtin.«object.__ne__» ⟨[.ref x, b], []⟩) Q E s := by
  unfold Builtin.«object.__ne__»
  have eq1 := fun (Q1 : Option Value → Shared → Prop) (h : wpAny (model prog w) A (call (.ref f) [.ref x, b]) (fun v => Q1 (some v)) E s) => PySem.W.ifBound_K (args := [b]) (E := E) X I hs hf h
  repeat (first
    | with_reducible refine wpAny_cRoomFor hu ?_
    | (refine wpAny_bind (m := callSpecialIfBound? (.ref x) (Str.ofString "__eq__") [b])
        (eq1 _ (wpAny_mono hcall (fun v s' hv => by
          obtain ⟨k, rfl, hq⟩ := hv
          repeat (first | exact hq | exact wpAny_pure hq | exact wpAny_truthy_bool hq | (refine wpAny_bind (m := truthy (.bool _)) (wpAny_truthy_bool ?_)) | wp_step)) fun _ _ e => e)))
    | wp_step)
theorem richK {op : CmpOp} {Q : Value → Shared → Prop} (hu : A.units < cLine) (X : K.In s.heap) (I : PySem.W.InstAt s.heap x ox C od) (hb : PySem.W.Looks (model prog w) s.heap (typeOf b) tb) (hn : PySem.W.notFirst K C tb = true)
    (h : wpAny (model prog w) A (tryCompare (.ref x) (cmpInfo op).2.1 b) (fun r s' => ∃ v, r = some v ∧ Q v s') E s) : wpAny (model prog w) A (richCompare op (.ref x) b) Q E s := by
  unfold richCompare
  simp only [oneThing_ref]
  refine wpAny_holding (wpAny_bind (wpAny_cRoomFor hu ?_))
  refine wpAny_bind (I.type.here (wpAny_bind (hb.here ?_)))
  split
  · rename_i q
    have e : PySem.W.subIn K tb (.ref C) = some false := by
      rcases Bool.or_eq_true_iff.mp hn with e | e
      · rw [beq_iff_eq.mp e] at q; simp at q
      · exact beq_iff_eq.mp e
    refine wpAny_bind ((PySem.W.looks_subIn X e).here ?_)
    simp only [Bool.false_eq_true, if_false]
    refine wpAny_bind (wpAny_mono h (fun r s' z => ?_) fun _ _ e => e)
    obtain ⟨v, rfl, hq⟩ := z
    exact wpAny_pure hq
  · refine wpAny_bind (wpAny_pure ?_)
    simp only [Bool.false_eq_true, if_false]
    refine wpAny_bind (wpAny_mono h (fun r s' z => ?_) fun _ _ e => e)
    obtain ⟨v, rfl, hq⟩ := z
    exact wpAny_pure hq
theorem cmp_ne {Q : Value → Shared → Prop} (hu : A.units + 1 < cLine) (X : K.In s.heap) (I : PySem.W.InstAt s.heap x ox C od) (hb : PySem.W.Looks (model prog w) s.heap (typeOf b) tb) (hn : PySem.W.notFirst K C tb = true)
    (hs : PySem.W.findIn K (.ref C) "__eq__" = some (some (.ref f))) (hf : PySem.W.isFn K (.ref f) = true) (hne : PySem.W.findIn K (.ref C) "__ne__" = some (some (.builtin "object.__ne__"))) (hm : PySem.W.mroIn K C (.type "object") = some true)
    (h : wpAny (model prog w) A.in1 (call (.ref f) [.ref x, b]) (fun v s' => ∃ k, v = .bool k ∧ Q (.bool (!k)) s') E s) : wpAny (model prog w) A (richCompare .NotEq (.ref x) b) Q E s := by
  refine richK (Nat.lt_of_succ_lt hu) X I hb hn ?_
  show wpAny (model prog w) A (tryCompare (.ref x) "__ne__" b) (fun r s' => ∃ v, r = some v ∧ Q v s') E s
  unfold tryCompare
  refine wpAny_bind (ifBound_ne (Q := fun r s' => wpAny (model prog w) A (match r with | some .notImplemented => pure none | none => pure none | some v => pure (some v)) (fun r s' => ∃ v, r = some v ∧ Q v s') E s') X I hne (wpAny_call (codeAny_call_builtin F.cmp_object.ne.plain F.cmpEntry_ne (check_slotK F.cmpKind_ne F.cmpSplit_ne (F.cmpArgs_ne _ _) X I hm (ne_entryK (A := A.in1) X I hu hs hf (wpAny_mono h (fun v s' hv => ?_) fun _ _ e => e))))))
  obtain ⟨k, rfl, hq⟩ := hv
  exact ⟨k, rfl, wpAny_pure ⟨_, rfl, hq⟩⟩
end
/-- y stands aside when an instance of the class at C is compared with it -/
def Aside (K : PySem.W.Frag) (C : Addr) (H : Hp) (y : V) : Prop := (∃ b dy gs, y = .ref b ∧ H b = some (.ins C dy gs)) ∨ (∃ b ys, y = .ref b ∧ SqT K H b ys ∧ PySem.W.subIn K (.type "tuple") (.ref C) = some false)
/-- x == y (neg: x != y), x an instance of the class at C with an own __eq__ -/
def rOwnEq (K : PySem.W.Frag) (C : Addr) (neg : Bool) (sp : Sp) (E : XK) : R2 := fun x y H Q => ∃ a dx fs, x = .ref a ∧ H a = some (.ins C dx fs) ∧ Aside K C H y ∧ sp [x, y] H (fun v H' => ∃ k, v = .bl k ∧ Q (.bl (k != neg)) H') E
section
variable {X : Cx} {CX : CXT} {C f : Addr} {fd : FuncData} {ps : List Str} {n : Nat} {sp : Sp} {E : XK}
theorem aside_looks {pins : List (Addr × Obj)} {σ : L2.St} {H : Hp} {s : Shared} {y : V} {u : Value} (I : Inv X pins σ H s) (ry : RelV y u) (h : Aside X.K C H y) : ∃ tb, PySem.W.Looks (model X.prog X.w) s.heap (typeOf u) tb ∧ PySem.W.notFirst X.K C tb = true := by
  rcases h with ⟨b, dy, gs, rfl, hb⟩ | ⟨b, ys, rfl, hb, hs⟩
  · cases (show u = Value.ref b from ry)
    obtain ⟨mB, J, _⟩ := ins_get I.hok hb
    obtain ⟨od, J, _⟩ := J.look
    exact ⟨_, J.type, by simp [PySem.W.notFirst]⟩
  · cases (show u = Value.ref b from ry)
    obtain ⟨its, _, ⟨o, e, ec, _⟩, _⟩ := I.tuple hb
    refine ⟨.type "tuple", ?_, by simp [PySem.W.notFirst, hs]⟩
    intro A Q E s' k q
    refine wpAny_typeOf_ref (k _ _ e) ?_
    rw [ec]
    exact q
theorem op_ownEq (hs : PySem.W.findIn X.K (.ref C) "__eq__" = some (some (.ref f))) (hf : PySem.W.isFn X.K (.ref f) = true) (F : FnOk X.prog X.w X.K X.mg X.base CX n f fd ps sp) (hb : Binds X.K fd ps [])
    (hr : Room n X.A) (hx : Passes CX X E) : OpR X (compareOp .Eq) (rOwnEq X.K C false sp E) := by
  intro pins s σ H x y v u Q I rx ry h
  obtain ⟨a, dx, fs, rfl, ha, hy, q⟩ := h
  cases (show v = Value.ref a from rx)
  obtain ⟨mA, J, _⟩ := ins_get I.hok ha
  obtain ⟨od, J, _⟩ := J.look
  obtain ⟨m, hF⟩ := I.fr
  obtain ⟨tb, L, hn⟩ := aside_looks I ry hy
  show wpAny (model X.prog X.w) X.A (richCompare .Eq (.ref a) u) (EP X pins σ Q) X.xe s
  refine PySem.W.cmp_K (op := .Eq) hr.units0 hF I.ok.mod.kin J L hn hs hf ?_
  refine wpAny_mono (run_fn (us := [.ref a, u]) (vs := [.ref a, y]) F hr hb .nil hx I (.cons rfl (.cons ry .nil)) q) (fun w s' z => ?_) fun _ _ x => x
  obtain ⟨z', H', I', rz, k, ez, qz⟩ := z
  subst ez
  cases (show w = Value.bool k from rz)
  refine ⟨.bl k, H', I', rfl, ?_⟩
  cases k <;> exact qz
theorem op_ownNe (hs : PySem.W.findIn X.K (.ref C) "__eq__" = some (some (.ref f))) (hf : PySem.W.isFn X.K (.ref f) = true) (hne : PySem.W.findIn X.K (.ref C) "__ne__" = some (some (.builtin "object.__ne__"))) (hm : PySem.W.mroIn X.K C (.type "object") = some true)
    (F : FnOk X.prog X.w X.K X.mg X.base CX n f fd ps sp) (hb : Binds X.K fd ps []) (hr : Room (n + 1) X.A) (hx : Passes CX X E) : OpR X (compareOp .NotEq) (rOwnEq X.K C true sp E) := by
  intro pins s σ H x y v u Q I rx ry h
  obtain ⟨a, dx, fs, rfl, ha, hy, q⟩ := h
  cases (show v = Value.ref a from rx)
  obtain ⟨mA, J, _⟩ := ins_get I.hok ha
  obtain ⟨od, J, _⟩ := J.look
  obtain ⟨tb, L, hn⟩ := aside_looks I ry hy
  show wpAny (model X.prog X.w) X.A (richCompare .NotEq (.ref a) u) (EP X pins σ Q) X.xe s
  refine cmp_ne (by have := hr.un; omega) I.kIn J L hn hs hf hne hm ?_
  have hl := F.len _ _ _ _ q
  have r2 : Vals [V.ref a, y] [Value.ref a, u] := .cons rfl (.cons ry .nil)
  refine wpAny_call (codeAny_mono (F.run X.A.in1 X.stack s H ⟨[.ref a, u], []⟩ [.ref a, u] [.ref a, y] _ E hr.in1 I.env0.in1 (by
    have := hb s [.ref a, u] I.kIn (by simpa using hl)
    simpa using this) r2 q) fun r s' hq => ?_)
  cases r with
  | error e => exact hx pins σ H s e s' I hq
  | ok fl =>
    cases fl with
    | ret w =>
      obtain ⟨z, H', I', rz, k, ez, qz⟩ := I.after hq
      subst ez
      cases (show w = Value.bool k from rz)
      refine ⟨k, rfl, .bl (!k), H', I', rfl, ?_⟩
      cases k <;> exact qz
    | next => exact False.elim hq
    | brk => exact False.elim hq
    | cont => exact False.elim hq
end
end EnL
end S_Xh
section S_Wi
/-! a lambda with one parameter, its default a constant, handed to a def that calls it without arguments -/
namespace LamX
open PySem PySem.Spec PyProof.Rows L2
/-- the function object of such a lambda: dv its defaults -/
abbrev dfFd (q : Str) (ps : Arguments) (bd : Expr) (sc : Scope) (cl : List (Str × Addr)) (dv pm cv ct : Value) : FuncData :=
  { PySem.W.kla_fn "<lambda>" q ps bd sc cl pm cv ct with defaults := dv }
abbrev dfObj (fd : FuncData) : Obj := { cls := .type "function", data := .func fd }
abbrev dfTup (v : Value) : Obj := { cls := .type "tuple", data := .seq #[v] }
abbrev dfArgs (x : Str) (ap : Pos) (e : Expr) : Arguments := { posonlyargs := [], args := [{ arg := x, annotation := none, pos := ap }], vararg := none, kwonlyargs := [], kw_defaults := [], kwarg := none, defaults := [e] }
section
variable {M : Model} {A : Around} {E : Value → Shared → Prop} {s : Shared} {q : Str} {ap : Arguments} {bd : Expr} {sc : Scope} {env : Env} {c P : Addr} {tr : Array Value} {pos : Pos} {fl : Nat} {mg : Str → Option Value}
  {cl : List (Str × Addr)} {dv : Value} {Q : Value → Shared → Prop}
theorem clo_tup {its : List Value} {b : Bool} {jp : Value → Sem Value} (h : ∀ (v : Value) (hh : Heap), (∀ a o, s.heap.get? a = some o → hh.get? a = some o) → s.heap.objs.size ≤ hh.objs.size → wpAny M A (jp v) Q E { s with heap := hh }) :
    wpAny M A (if b = true then pure Value.none >>= jp else newTextTuple its >>= jp) Q E s := by
  cases b with
  | true => exact wpAny_bind (wpAny_pure (h .none s.heap (fun _ _ e => e) (Nat.le_refl _)))
  | false => exact wpAny_bind (wpAny_newTextTuple (h _ _ (fun _ _ e => Heap.get?_push_of_some _ e) (by rw [Heap.size_push]; omega)))
/-- the object is made: its code object is new -/
theorem df_miss (h1 : closureFor sc env = pure cl) (h2 : env.globals = mainGlobals) (h3 : s.heap.Ns mainGlobals mg) (h4 : env.code = .ref c) (h5 : PySem.W.CodeHd s.heap c P) (h6 : s.heap.get? P = some (PySem.W.tabObj tr)) (h7 : TriplesOk tr.toList)
    (h8 : codeAmong pos tr.toList = none) (h9 : mainGlobals ≠ P) (hb : s.heap.BuiltinsAt mg P)
    (k : ∀ c' ct hh tk, Heap.ExtBut P s.heap hh → s.heap.objs.size ≤ c' → c' < hh.objs.size → hh.CodeRec (.ref c') q → hh.get? P = some (PySem.W.tabObj (tr ++ #[rawInt pos.line, rawInt pos.col, .ref c'])) →
      Q (.ref hh.objs.size) { s with heap := hh.push (dfObj (dfFd q ap bd sc cl dv ((mg "__name__").getD .none) (.ref c') ct)), toks := tk }) : wpAny M A (makeTail "<lambda>" q ap (.expr bd) sc env dv .none none pos fl) Q E s := by
  obtain ⟨bm, ob, b1, b2, _, b3, b4, b5, b6, b7⟩ := hb
  unfold makeTail
  rw [h1, h2]
  refine wpAny_bind (wpAny_pure ?_)
  refine clo_tup fun ct h0 k0 sz => ?_
  refine wpAny_bind (wpAny_functionCodeX h4 ((h5.keeps k0).code (k0 _ _ h6) h7) ((h5.keeps k0).tab (k0 _ _ h6)) h8 fun c' hh tk hx ge lt _ hrec htb _ => ?_)
  have g' := (h3.keeps k0).extBut hx h9
  have x' : Heap.ExtBut P s.heap hh := fun b o n e => hx b o n (k0 b o e)
  refine wpAny_bind (wpAny_builtinsFor g' b1 b2 (x' _ _ b3 b4) b5 b6 b7 (wpAny_bind (wpAny_nsGet g' ?_)))
  exact wpAny_bind (wpAny_pure (wpAny_newObj_type (k c' ct hh tk x' (Nat.le_trans sz ge) lt hrec htb.2) (by size_fits)))
/-- its code object stands in the table -/
theorem df_hit {cv : Value} (h1 : closureFor sc env = pure cl) (h2 : env.globals = mainGlobals) (h3 : s.heap.Ns mainGlobals mg) (h4 : env.code = .ref c) (h5 : PySem.W.CodeHd s.heap c P) (h6 : s.heap.get? P = some (PySem.W.tabObj tr)) (h7 : TriplesOk tr.toList)
    (h8 : codeAmong pos tr.toList = some cv) (hb : s.heap.BuiltinsAt mg P)
    (k : ∀ (ct : Value) (hh : Heap) (tk : Tok), (∀ a o, s.heap.get? a = some o → hh.get? a = some o) → s.heap.objs.size ≤ hh.objs.size → Q (.ref hh.objs.size) { s with heap := hh.push (dfObj (dfFd q ap bd sc cl dv ((mg "__name__").getD .none) cv ct)), toks := tk }) :
    wpAny M A (makeTail "<lambda>" q ap (.expr bd) sc env dv .none none pos fl) Q E s := by
  obtain ⟨bm, ob, b1, b2, _, b3, b4, b5, b6, b7⟩ := hb
  unfold makeTail
  rw [h1, h2]
  refine wpAny_bind (wpAny_pure ?_)
  refine clo_tup fun ct h0 k0 sz => ?_
  refine wpAny_bind (wpAny_functionCode_hit h4 ((h5.keeps k0).code (k0 _ _ h6) h7) h8 ?_)
  refine wpAny_bind (wpAny_builtinsFor (h3.keeps k0) b1 b2 (k0 _ _ b4) b5 b6 b7 (wpAny_bind (wpAny_nsGet (h3.keeps k0) ?_)))
  exact wpAny_bind (wpAny_pure (wpAny_newObj_type (k ct h0 s.toks k0 sz) (by size_fits)))
end
section
variable {X : Cx} {pins : List (Addr × Obj)} {σ : L2.St} {H : Hp} {s : Shared}
/-- the whole making -/
theorem lam_makeD {T : List (Addr × Str)} {c P : Addr} {x : Str} {ap : Pos} {e : Expr} {bd : Expr} {sc : Scope} {pos : Pos} {E : Value → Shared → Prop} {Q : Value → Shared → Prop} (I : Inv X pins σ H s) (TB : TabB X.base X.mg c P) (hcode : X.env.code = .ref c) (he : e.isPlainConst = true)
    (hm : (P, X.env.qual ++ "<lambda>") ∈ T) (hu : ∀ p ∈ T, p.1 = P → p.2 = X.env.qual ++ "<lambda>") (hT : Tabs T H) (hfree : ∀ y ∈ sc.names, y.2 = .free → ∃ c, X.env.cells.lookup y.1 = some c)
    (k : ∀ (f c' d : Addr) (v pm ct : Value) (H1 : Hp) (s' : Shared), Inv X pins σ H1 s' → ExtN H H1 → Tabs T H1 → s'.heap.get? f = some (dfObj (dfFd (X.env.qual ++ "<lambda>") (dfArgs x ap e) bd sc (cloFrom X.env.cells sc.names []) (.ref d) pm (.ref c') ct)) →
      s'.heap.get? d = some (dfTup v) → H1 f = none → H1 d = none → f ∉ frs X.stack → d ∉ frs X.stack → H1 c' = some (CodeO c' (X.env.qual ++ "<lambda>")) → Q (.ref f) s') :
    wpAny (model X.prog X.w) X.A (eval (.Lambda (dfArgs x ap e) bd sc pos) X.env) Q E s := by
  obtain ⟨tr, hP, ht, ha⟩ := hT _ hm
  rw [arm_eval_Lambda]
  show wpAny (model X.prog X.w) X.A (do let dv ← evalAll (evalEach [e] X.env); let kdv ← holding dv (evalAllOpt []); makeFunction "<lambda>" (X.env.qual ++ "<lambda>") (dfArgs x ap e) (.expr bd) sc X.env dv kdv [] pos pos.line) Q E s
  refine wpAny_bind (wpAny_evalAll_consts [e] s _ (fun z hz => by rw [List.mem_singleton.mp hz]; exact he) fun vs tk cv => ?_)
  obtain ⟨v, rfl⟩ : ∃ v, vs = [v] := by
    match vs, cv with
    | [v], _ => exact ⟨v, rfl⟩
    | _ :: _ :: _, cv => exact cv.2.elim
  refine wpAny_bind (wpAny_holding (wpAny_pure ?_))
  rw [makeFunction_eq]
  simp only [List.zip_nil_left, List.filterMap_nil, List.isEmpty_nil, List.isEmpty_cons, if_true, if_false, Bool.false_eq_true, pure_bind]
  refine wpAny_bind (wpAny_newTextTuple ?_)
  have nofr : ∀ f, s.heap.objs.size ≤ f → f ∉ frs X.stack := fun f hf z => by
    rcases List.mem_cons.mp (I.stkSub _ z) with e' | e'
    · have w := I.lt
      rw [← e'] at w
      exact Nat.lt_irrefl _ (Nat.lt_of_lt_of_le w hf)
    · exact I.nofs hf e'
  have hd : H s.heap.objs.size = none := I.hok.fresh (Nat.le_refl _)
  have dP : s.heap.objs.size ≠ P := fun z => by rw [z, hP] at hd; cases hd
  have I0 : Inv X pins σ H { s with heap := s.heap.push (dfTup v), toks := tk } := I.kept fun b o z => Heap.get?_push_of_some _ z
  have d0 : (s.heap.push (dfTup v)).get? s.heap.objs.size = some (dfTup v) := Heap.get?_push_size _ rfl
  have sz0 : s.heap.objs.size ≤ (s.heap.push (dfTup v)).objs.size := by rw [Heap.size_push]; omega
  have bP : (s.heap.push (dfTup v)).BuiltinsAt X.mg P := TB.bm.keeps I0.bk
  have hP' : (s.heap.push (dfTup v)).get? P = some { cls := .none, data := .fields tr } := I0.hok P _ hP
  cases hc : codeAmong pos tr.toList with
  | none =>
    refine df_miss (s := { s with heap := s.heap.push (dfTup v), toks := tk }) (mg := X.mg) (c := c) (P := P) (tr := tr) (closure_ok hfree) I.ok.glob (I.mod.glob.keeps I0.bk) hcode (TB.code.keeps I0.bk) hP' ht hc TB.gP bP fun c' ct hh tk' hx ge lt hrec htb => ?_
    obtain ⟨c2, oc, vs, t, e2, hoc, hdt, hv⟩ := hrec
    cases e2
    have ge' : (s.heap.push (dfTup v)).objs.size ≤ c' := ge
    have nC : H c' = none := I.hok.fresh (Nat.le_trans sz0 ge')
    have szh : (s.heap.push (dfTup v)).objs.size ≤ hh.objs.size := Nat.le_trans ge' (Nat.le_of_lt lt)
    have dc : s.heap.objs.size ≠ c' := fun z => by rw [← z, Heap.size_push] at ge'; omega
    have df : s.heap.objs.size ≠ hh.objs.size := fun z => by rw [← z, Heap.size_push] at szh; omega
    have I1 := inv_table (t' := tk') (more := #[rawInt pos.line, rawInt pos.col, .ref c']) (h' := hh.push (dfObj (dfFd (X.env.qual ++ "<lambda>") (dfArgs x ap e) bd sc (cloFrom X.env.cells sc.names []) (.ref s.heap.objs.size) ((X.mg "__name__").getD .none) (.ref c') ct))) I0 hP
      (fun b o hb z => Heap.get?_push_of_some _ (hx b o hb z)) (Heap.get?_push_of_some _ htb) ge ⟨oc, vs, t, Heap.get?_push_of_some _ hoc, hdt, hv⟩
    have hE : ExtN H (upd (upd H P (.tbl (tr ++ #[rawInt pos.line, rawInt pos.col, .ref c']))) c' (CodeO c' (X.env.qual ++ "<lambda>"))) := fun b o z n => by
      have bP' : b ≠ P := fun y => n tr (Option.some.inj (z.symm.trans (by rw [y]; exact hP)))
      rw [upd_ne (ne_of_none z nC), upd_ne bP']
      exact z
    have eL : (tr ++ #[rawInt pos.line, rawInt pos.col, .ref c']).toList = tr.toList ++ [rawInt pos.line, rawInt pos.col, .ref c'] := by simp
    have off : ∀ {b : Addr}, b ≠ c' → b ≠ P → H b = none → upd (upd H P (.tbl (tr ++ #[rawInt pos.line, rawInt pos.col, .ref c']))) c' (CodeO c' (X.env.qual ++ "<lambda>")) b = none := fun n1 n2 n3 => by rw [upd_ne n1, upd_ne n2]; exact n3
    refine k hh.objs.size c' s.heap.objs.size v ((X.mg "__name__").getD .none) ct _ _ I1 hE (fun p hp => ?_) (Heap.get?_push_size _ rfl) (Heap.get?_push_of_some _ (hx _ _ dP d0)) (off (Nat.ne_of_gt lt) (Nat.ne_of_gt (Nat.lt_of_lt_of_le (Heap.lt_size hP') szh)) (I.hok.fresh (Nat.le_trans sz0 szh))) (off dc dP hd) (nofr _ (Nat.le_trans sz0 szh)) (nofr _ (Nat.le_refl _)) upd_same
    by_cases hb : p.1 = P
    · rw [hu p hp hb, hb]
      refine ⟨_, by rw [upd_ne (ne_of_none hP nC), upd_same], by rw [eL]; exact PySem.TriplesOk_snoc _ _ _ _ ht, fun p' cv' hcv => ?_⟩
      rw [eL] at hcv
      rcases among_app _ ht hcv with z | z
      · obtain ⟨c0, y1, y2⟩ := ha p' cv' z
        exact ⟨c0, y1, hE _ _ y2 codeO_ne⟩
      · exact ⟨c', z, upd_same⟩
    · obtain ⟨tr2, a1, a2, a3⟩ := hT p hp
      refine ⟨tr2, by rw [upd_ne (ne_of_none a1 nC), upd_ne hb]; exact a1, a2, fun p' cv' hcv => ?_⟩
      obtain ⟨c0, y1, y2⟩ := a3 p' cv' hcv
      exact ⟨c0, y1, hE _ _ y2 codeO_ne⟩
  | some cv =>
    obtain ⟨c', y, hco⟩ := ha pos cv hc
    subst y
    refine df_hit (s := { s with heap := s.heap.push (dfTup v), toks := tk }) (mg := X.mg) (c := c) (P := P) (tr := tr) (closure_ok hfree) I.ok.glob (I.mod.glob.keeps I0.bk) hcode (TB.code.keeps I0.bk) hP' ht hc bP fun ct hh tk' hx szh => ?_
    have I1 : Inv X pins σ H { s with heap := hh.push (dfObj (dfFd (X.env.qual ++ "<lambda>") (dfArgs x ap e) bd sc (cloFrom X.env.cells sc.names []) (.ref s.heap.objs.size) ((X.mg "__name__").getD .none) (.ref c') ct)), toks := tk' } := I0.kept fun b o z => Heap.get?_push_of_some _ (hx b o z)
    exact k hh.objs.size c' s.heap.objs.size v ((X.mg "__name__").getD .none) ct H _ I1 (ExtN.refl H) hT (Heap.get?_push_size _ rfl) (Heap.get?_push_of_some _ (hx _ _ d0)) (I.hok.fresh (Nat.le_trans sz0 szh)) hd (nofr _ (Nat.le_trans sz0 szh)) (nofr _ (Nat.le_refl _)) hco
end
/-- its names: the parameter x alone is its own -/
structure LamSD (sc scope : Scope) (x : Str) : Prop where
  kind : scope.kind = .function
  co : scope.isCoroutine = false
  gen : scope.isGenerator = false
  own : ∀ y ∈ scope.names, (y.2 = .local → y.1 = x) ∧ y.2 ≠ .cell
  loc : scope.names.lookup x = some .local
  free : ∀ y ∈ scope.names, y.2 = .free → sc.names.lookup y.1 = some .cell ∨ sc.names.lookup y.1 = some .free
def lamSDB (sc scope : Scope) (x : Str) : Bool :=
  decide (scope.kind = .function) && (!scope.isCoroutine && (!scope.isGenerator && (decide (scope.names.lookup x = some .local) && scope.names.all fun y => (!decide (y.2 = .local) || decide (y.1 = x)) && (!decide (y.2 = .cell) && (!decide (y.2 = .free) || (decide (sc.names.lookup y.1 = some .cell) || decide (sc.names.lookup y.1 = some .free)))))))
theorem lamSD_by {sc scope : Scope} {x : Str} (h : lamSDB sc scope x = true) : LamSD sc scope x := by
  unfold lamSDB at h
  simp only [Bool.and_eq_true, Bool.or_eq_true, Bool.not_eq_true', decide_eq_true_eq, decide_eq_false_iff_not, List.all_eq_true] at h
  obtain ⟨a1, a2, a3, a4, a5⟩ := h
  exact ⟨a1, a2, a3, fun y hy => ⟨fun e => (a5 y hy).1.elim (fun n => absurd e n) id, (a5 y hy).2.1⟩, a4, fun y hy e => (a5 y hy).2.2.elim (fun n => absurd e n) id⟩
theorem LamSD.has {X : Cx} {scope : Scope} {x : Str} (L : LamSD X.env.scope scope x) (ok : X.Ok) : ∀ y ∈ scope.names, y.2 = .free → ∃ c, X.env.cells.lookup y.1 = some c := fun y hy e =>
  (L.free y hy e).elim (fun z => ok.has _ (.inl z)) fun z => ok.has _ (.inr z)
section
variable {X : Cx} {pins : List (Addr × Obj)} {σ : L2.St} {H HZ : Hp} {s s1 : Shared}
theorem lam_startD {A : Around} {outer : List Env} {E : XK} {scope : Scope} {f c' : Addr} {h₁ : Heap} {tk : Nat} {x : Str} {v : Value} (I : Inv X pins σ H s) (L : LamSD X.env.scope scope x) (hx : x ∉ X.N) (z0 : Env0 X.prog X.w X.K X.mg X.base A outer s1 HZ) (z1 : A.handled = none)
    (un : Un (frs X.stack) [] H HZ s.heap s1.heap) (ns : h₁.Ns s1.heap.objs.size fun y => ([(x, v)] : List (Str × Value)).reverse.lookup y) (kp : ∀ b o, s1.heap.get? b = some o → h₁.get? b = some o) :
    Inv (lamCx X A outer s1 HZ E scope f c') [] σ HZ { s1 with heap := h₁, toks := tk } := by
  have hfree := L.has I.ok
  have cm : ∀ {y c}, (cloFrom X.env.cells scope.names []).lookup y = some c → X.env.cells.lookup y = some c := fun {y c} e => by
    rcases cloFrom_mem (PySem.mem_of_lookup e) with m | ⟨m1, m2⟩
    · cases m
    · obtain ⟨c1, hc⟩ := hfree _ m1 rfl
      have hc : X.env.cells.lookup y = some c1 := hc
      obtain rfl : c = c1 := by rw [m2, hc] <;> rfl
      exact hc
  have look : ∀ {y}, scope.names.lookup y = some .free → ∃ c, (cloFrom X.env.cells scope.names []).lookup y = some c := fun {y} m =>
    mem_lookup (cloFrom_has (cells := X.env.cells) (acc := []) (show (y, NameKind.free) ∈ scope.names from PySem.mem_of_lookup m))
  have cellK : ∀ {c : Addr} {u : Option Value}, H c = none → s.heap.IsCell c u → h₁.IsCell c u := fun {c u} n ⟨o, ho, hd⟩ => by
    obtain ⟨sl, w⟩ := un.any ho n (by simp)
    exact ⟨_, kp _ _ w, hd⟩
  have noA : ∀ b : Addr, b ∉ (lamCx X A outer s1 HZ E scope f c').ex := fun b m => absurd (show b ∈ ([] : List Addr) from m) (by simp)
  refine ⟨⟨z0.mod, L.kind, rfl, rfl, Nat.le_refl _, fun y m c e1 e2 => I.ok.inj y m c (cm e1) (cm e2), fun y hy => ?_, fun y c m _ => ?_, fun _ => z1, Around.frames_deeper z0.frames, .inr ⟨rfl, rfl⟩, fun b m => absurd m (noA b), z0.bs, z0.bsz, fun b _ _ => noA b,
      fun b m => absurd m (noA b), z0.funs, z0.frf⟩,
    rfl, z0.bare, Un.kept kp, ⟨_, ns, fun i y u e1 e2 e3 => ?_⟩, fun y c e => ?_, z0.hok.fresh (Nat.le_refl _), fun y c e => ?_, fun p hp => absurd (show p ∈ ([] : List (Addr × Obj)) ++ [] from hp) (by simp), z0.hok.kept kp, I.len⟩
  · have hy : scope.names.lookup y = some .cell ∨ scope.names.lookup y = some .free := hy
    exact hy.elim (fun m => absurd rfl (L.own _ (PySem.mem_of_lookup m)).2) look
  · cases (show false = true from m)
  · have e1' : X.N[i]? = some y := e1
    have e3 : Vis scope y := e3
    rcases e3 with m | m | m
    · have m' := (L.own _ (PySem.mem_of_lookup m)).1 rfl
      exact absurd (m' ▸ List.mem_of_getElem? e1') hx
    · exact absurd rfl (L.own _ (PySem.mem_of_lookup m)).2
    · obtain ⟨mm, hn, hl⟩ := I.loc
      have vis : Vis X.env.scope y := (L.free _ (PySem.mem_of_lookup m) rfl).elim (fun m => .inr (.inl m)) (fun m => .inr (.inr m))
      obtain ⟨u', r, w⟩ := hl i y u e1 e2 vis
      obtain ⟨c2, m2⟩ := look m
      refine ⟨u', r, .inr ⟨.inr m, c2, m2, ?_⟩⟩
      have c1 := cm m2
      rcases w with ⟨k', _⟩ | ⟨_, c3, e', w⟩
      · have k' : X.env.scope.names.lookup y = some .local := k'
        rcases L.free _ (PySem.mem_of_lookup m) rfl with k2 | k2 <;> rw [show X.env.scope.names.lookup y = _ from k2] at k' <;> cases k'
      · rw [c1] at e'
        cases e'
        exact cellK (I.freeC y _ c1) w
  · obtain ⟨u', w⟩ := I.cell y c (cm e)
    exact ⟨u', cellK (I.freeC y c (cm e)) w⟩
  · obtain ⟨u, o, ho, hd⟩ := I.cell y c (cm e)
    exact un.free c o ho (I.freeC y c (cm e)) (by simp)
/-- how the call without arguments binds -/
def BindsD (x : Str) (ps : Arguments) (bd : Expr) (sc : Scope) : Prop := ∀ (q : Str) (cl : List (Str × Addr)) (d : Addr) (v pm cv ct : Value), ∃ k, bindArgs (dfFd q ps bd sc cl (.ref d) pm cv ct) ⟨[], []⟩ = seqItems? (.ref d) >>= k ∧ k (some #[v]) = pure [(x, v)]
theorem pe_actD {CXg : CXT} {Eg : XK} {Ng : List Str} {qg : Str} {sg : Scope} {g f c' d : Addr} {cdg pm ct v : Value} {ps : Arguments} {bd : Expr} {scope : Scope} {k i : Nat} {a x : Str} {pn : List (Addr × Obj)} {xe : Value → Shared → Prop} {W : WX} {E : XK} {tb : TE} {p1 p2 : Pos}
    (I : Inv X pins σ H s) (L : LamSD X.env.scope scope x) (hx : x ∉ X.N) (hf : s.heap.get? f = some (dfObj (dfFd (X.env.qual ++ "<lambda>") ps bd scope (cloFrom X.env.cells scope.names []) (.ref d) pm (.ref c') ct))) (hdv : s.heap.get? d = some (dfTup v)) (nf : H f = none) (nd : H d = none) (ff : f ∉ frs X.stack) (fd : d ∉ frs X.stack)
    (hbind : BindsD x ps bd scope)
    (tk : Takes ((cxOf CXg X.prog X.w X.K X.mg X.base Ng qg sg g cdg X.A X.stack s H Eg).tr pn xe) W) (hW : ∀ cls d σ' H', E cls d H' → W cls d σ' H') (hr : Room (k + 1) (X.A.deeper (envOfC qg sg s.heap.objs.size g cdg)))
    (hbody : ∀ (A : Around) (outer : List Env) (s : Shared) (H : Hp), Room k (A.deeper (lamEnv X scope s.heap.objs.size f c')) → PE (lamCx X A outer s H E scope f c') bd tb)
    (hN : Ng[i]? = some a) (hv : Vis sg a) (hd : (a == ("__debug__" : Str)) = false := by decide) (hcd : (a == ("__classdict__" : Str)) = false := by decide) :
    PE ((cxOf CXg X.prog X.w X.K X.mg X.base Ng qg sg g cdg X.A X.stack s H Eg).tr pn xe) (.Call (.Name a p1) [] [] p2)
      (fun σZ HZ Q => σZ[i]? = some (some (.ref f)) ∧ HZ c' = some (CodeO c' (X.env.qual ++ "<lambda>")) ∧ tb σ HZ Q) := by
  refine ⟨fun pinsZ sZ σZ HZ Q IZ ⟨hs, hc, ht⟩ => ?_⟩
  refine wpAny_Call_Name_kw (thn ((pe_var (pos := p1) (i := i) hN hv hd hcd).run pinsZ sZ σZ HZ (fun u H1 => u = .ref f ∧ H1 = HZ) IZ ⟨.ref f, hs, rfl, rfl⟩) fun u s1 ⟨u', H1, I1, r1, w1⟩ => ?_)
  obtain ⟨w1, w2⟩ := w1
  subst w1
  rw [w2] at I1
  obtain rfl : u = Value.ref f := r1
  have noX : ∀ b : Addr, b ∉ ([] : List Addr) := fun b z => nomatch z
  have of1 : s1.heap.get? f = some (dfObj (dfFd (X.env.qual ++ "<lambda>") ps bd scope (cloFrom X.env.cells scope.names []) (.ref d) pm (.ref c') ct)) := I1.base.keep f _ hf nf ff (noX f)
  have od1 : s1.heap.get? d = some (dfTup v) := I1.base.keep d _ hdv nd fd (noX d)
  refine PySem.W.callWith_F0 ⟨_, _, _, _, of1⟩ ?_
  have un : Un (frs X.stack) [] H HZ s.heap s1.heap := I1.base
  obtain ⟨⟨oc, vs, t, o1, o2, o3⟩, _, _⟩ := I1.hok c' _ hc
  obtain ⟨kb, bk1, bk2⟩ := hbind (X.env.qual ++ "<lambda>") (cloFrom X.env.cells scope.names []) d v pm (.ref c') ct
  have rc : codeAny (model X.prog X.w) (X.A.deeper (envOfC qg sg s.heap.objs.size g cdg)) (.call (.ref f) ⟨[], []⟩) (CR (L2.CX X.prog X.w) (envOfC qg sg s.heap.objs.size g cdg :: X.stack) X.prog X.w HZ s1 Q E) s1 := by
    refine PySem.W.kla_callFunE hr.depth of1 rfl L.co L.gen rfl ⟨c', oc, vs, t, rfl, o1, o2, o3⟩ ?_
    rw [bk1]
    refine wpAny_bind (wpAny_seqItems od1 rfl ?_)
    rw [bk2]
    refine wpAny_pure (wpAny_newFunctionEnv (fun y hy => (L.own y hy).2) (fun y hy => by rw [List.mem_singleton.mp hy]; exact L.loc) (fun h₁ hns hsb => ⟨I1.nolimit.fresh _ hsb, ?_⟩) L.kind)
    show codeAny _ _ (.expr bd (lamEnv X scope s1.heap.objs.size f c')) _ _
    have kp : ∀ b o, s1.heap.get? b = some o → h₁.get? b = some o := fun b o z => hsb.extBut b o (Nat.ne_of_lt (Heap.lt_size z)) (Heap.get?_push_of_some _ z)
    have J : Inv (lamCx X (X.A.deeper (envOfC qg sg s.heap.objs.size g cdg)) (envOfC qg sg s.heap.objs.size g cdg :: X.stack) s1 HZ E scope f c') [] σ HZ { s1 with heap := h₁, toks := s1.toks + ([(x, v)] : List (Str × Value)).length } :=
      lam_startD I L hx I1.env0 hr.hd un hns kp
    refine PySem.W.kla_codeExpr (wpAny_mono ((hbody _ _ s1 HZ (hr.deeper _)).run [] _ _ HZ Q J ht) (fun u s' hq => ?_) fun z s' hq => hq)
    obtain ⟨w', H', J', rv, q⟩ := hq
    exact ⟨w', H', J'.os, J'.bare, J'.base, J'.hok, rv, q⟩
  have hxp : Passes (L2.CX X.prog X.w) ((cxOf CXg X.prog X.w X.K X.mg X.base Ng qg sg g cdg X.A X.stack s H Eg).tr pn xe) E := passes_call tk hW
  refine wpAny_call (codeAny_mono rc fun r s' hq => ?_)
  match r, hq with
  | .error z, hq => exact hxp pinsZ σZ HZ s1 z s' I1 hq
  | .ok (.ret u), hq => exact I1.after hq
  | .ok .next, hq => exact hq.elim
  | .ok .brk, hq => exact hq.elim
  | .ok .cont, hq => exact hq.elim
end
section
variable {X : Cx}
/-- g(lambda x=const: body) -/
theorem pe_lamcallD {T : List (Addr × Str)} {TT : (XK → Hp → VK → Prop) → Hp → VK → Prop} {gn a x : Str} {g c P : Addr} {k : Nat} {pg : Arguments} {bg : List Stmt} {sg : Scope} {dV kV doc pm cdv ct oc : Value} {an od : Option Addr} {osl : Array (Option Value)} {Ng : List Str}
    {ap : Pos} {e bd : Expr} {scope : Scope} {t : XK → TE} {p lpos pos : Pos} (hg : Gl X gn) (hm : X.mg gn = some (.ref g)) (hk : PySem.W.keepIn X.K (.ref g) = true)
    (lk : X.K.lookup g = some ⟨oc, od, .func (PySem.W.fnOf gn gn pg bg sg dV kV doc pm an cdv ct), osl⟩) (hcg : PySem.W.codeIn X.K cdv gn = true) (hb : L2.Binds X.K (PySem.W.fnOf gn gn pg bg sg dV kV doc pm an cdv ct) [a] []) (Sg : FnScope Ng [a] sg) (hNg : Ng[0]? = some a) (hva : Vis sg a)
    (hG : GivesTo X Ng gn sg g cdv bg a (X.env.qual ++ "<lambda>") TT)
    (TB : TabB X.base X.mg c P) (hcode : X.env.code = .ref c) (hmT : (P, X.env.qual ++ "<lambda>") ∈ T) (hu : ∀ p ∈ T, p.1 = P → p.2 = X.env.qual ++ "<lambda>") (hr : Room (k + 2) X.A) (L : LamSD X.env.scope scope x) (hx : x ∉ X.N) (he : e.isPlainConst = true)
    (hbind : BindsD x (dfArgs x ap e) bd scope)
    (hbody : ∀ (A : Around) (outer : List Env) (s : Shared) (H : Hp) (E : XK) (f c' : Addr), Room k (A.deeper (lamEnv X scope s.heap.objs.size f c')) → PE (lamCx X A outer s H E scope f c') bd (t E))
    (hdb : (gn == ("__debug__" : Str)) = false := by decide) (hd : (a == ("__debug__" : Str)) = false := by decide) (hcd : (a == ("__classdict__" : Str)) = false := by decide) :
    PE X (.Call (.Name gn p) [.Lambda (dfArgs x ap e) bd scope lpos] [] pos) (tLam T TT t) := by
  refine ⟨fun pins s σ H Q I ⟨hT, h⟩ => ?_⟩
  refine wpAny_Call_Name_kw (ld_glob I hg hm ?_ hdb)
  refine PySem.W.callWith_K (h₀ := X.base) I.ok.mod.kin hk ?_ (by rfl) (by rfl)
  show wpAny _ _ (spliced ((false, eval (.Lambda (dfArgs x ap e) bd scope lpos) X.env) :: backTo pos (starEach [] X.env))) _ _ s
  refine Calls.spliced_cons (lam_makeD I TB hcode he hmT hu hT (L.has I.ok) fun f c' d v pm' ctv H1 s' I1 eN T1 hf hdv nf nd ff fd hco => ?_)
  refine Calls.spliced_nil ⟨I1.kIn, ?_⟩
  have rc : codeAny (model X.prog X.w) X.A (.call (.ref g) ⟨[.ref f], []⟩) (CR C8.CX0 X.stack X.prog X.w H1 s' Q C8.E0) s' := by
    refine run_ofS (N := Ng) (ps := [a]) (us := [.ref f]) (vs := [.ref f]) lk hcg Sg hr I1.env0 (hb s' [.ref f] I1.kIn rfl) (.cons rfl .nil) rfl fun hr' => ?_
    obtain ⟨t', ht', hq'⟩ := hG f c' s' H1 Q (fun E H' Q' => t E σ H' Q') (fun W pn xe E p1 p2 tk hW => pe_actD (i := 0) I1 L hx hf hdv nf nd ff fd hbind tk hW hr' (fun A outer s H hr2 => hbody A outer s H E f c' hr2) hNg hva hd hcd) hco (h H1 eN T1)
    exact ⟨t', ht'.nox, hq'⟩
  refine wpAny_call (codeAny_mono rc fun r s2 hq => ?_)
  match r, hq with
  | .error z, hq => exact (show False from hq).elim
  | .ok (.ret u), hq => exact I1.after hq
  | .ok .next, hq => exact hq.elim
  | .ok .brk, hq => exact hq.elim
  | .ok .cont, hq => exact hq.elim
end
end LamX
end S_Wi
section S_Wk
namespace Hk
open PySem PySem.Spec PyProof.Rows L2 LamX Tl
/-- caught = None / try: ask() / except E as error: caught = error / rest -/
def THeardS (K : PySem.W.Frag) (CS : Addr) (tr : TS) : (XK → Hp → VK → Prop) → Hp → VK → Prop := fun tl H Q => ∀ f : Addr,
  tl (fun cls d H' => PySem.W.exmOne K cls (.ref CS) = some true ∧ ∀ a, H' a = none → ∀ σ' : L2.St, σ'.length = 3 → σ'[1]? = some (some (.ref a)) → tr { nx := fun _ G => Q .non G, rt := Q } σ' (upd H' a (ErrAt cls d a))) H
    fun _ H' => tr { nx := fun _ G => Q .non G, rt := Q } [some (.ref f), some .non, none] H'
theorem heard_givesS {X : Cx} {x e q : Str} {sg : Scope} {g CS : Addr} {cdg : Value} {j : Nat} {rest : List Stmt} {tr : TS} {p1 p2 p3 p4 p5 p6 p7 p8 p9 r1 r2 r3 : Pos} (Sg : FnScope nAsk ["ask"] sg) (k1 : sg.names.lookup ("caught" : Str) = some NameKind.local) (k2 : sg.names.lookup ("error" : Str) = some NameKind.local)
    (hge : sg.names.lookup e = some .globalImplicit) (hme : X.mg e = some (.ref CS)) (hde : (e == ("__debug__" : Str)) = false)
    (hrt : ∀ (A : Around) (s : Shared) (H : Hp), PSs (cxA X x sg g cdg A s H) rest tr) :
    GivesTo X nAsk x sg g cdg (.Assign [.Name "caught" p1] (.Constant .none j p2) p3 :: .Try [.Expr (.Call (.Name "ask" r1) [] [] r2) r3] [.ExceptHandler (some (.Name e p4)) (some "error") [.Assign [.Name "caught" p5] (.Name "error" p6) p7] p8] [] [] p9 :: rest) "ask" q (THeardS X.K CS tr) := by
  intro f c' s H Q tl act hc h
  have gE : Gl (cxA X x sg g cdg X.A s H) e := hge
  have l1 : ∀ {Y : Cx}, Y.env.scope = sg → (Y.fn "caught" = true ∨ Y.env.scope.names.lookup ("caught" : Str) = some NameKind.local) := fun z => .inr (by rw [z]; exact k1)
  refine ⟨_, pss_cons (ps_set (X := cxA X x sg g cdg X.A s H) (i := 1) Sg.nd rfl (Or.inl k1) pe_non rfl (l1 rfl)) (pss_cons (ps_keep (X := cxA X x sg g cdg X.A s H) (i := 2) (c := .ref CS) (ts := fun _ _ _ => tAsg (tVar 2) (gName 1))
      (tb := fun W D σ H => ∃ Ech : XK, (∀ cls d σ' H', Ech cls d H' → σ'.length = 3 → W cls d σ' H') ∧ σ[0]? = some (some (.ref f)) ∧ H c' = some (CodeO c' q) ∧ tl Ech H (fun _ H' => D.nx σ H'))
      rfl rfl rfl Sg.nd rfl k2 ⟨gE, hde, Or.inl hme⟩ (fun W pn xe tk _ => ?_) (fun a oe cls d pn _ _ => pss_one (ps_set (i := 1) Sg.nd rfl (Or.inl k1) (pe_var (i := 2) rfl (Or.inl k2)) rfl (l1 rfl)))) (hrt X.A s H)), ?_⟩
  · refine ⟨fun pins s' σ H' D I ⟨Ech, hW, h1, h2, h3⟩ => ?_⟩
    have hp := act (fun cls d σ H => σ.length = nAsk.length → W cls d σ H) pn xe Ech r1 r2 (takes_len tk) hW
    exact (pss_one (ps_expr (pos := r3) hp)).run pins s' σ H' D I ⟨h1, h2, h3⟩
  · have h' := h f
    refine ⟨fun cls d H' => PySem.W.exmOne X.K cls (.ref CS) = some true ∧ ∀ a, H' a = none → ∀ σ' : L2.St, σ'.length = 3 → σ'[1]? = some (some (.ref a)) → tr { nx := fun _ G => Q .non G, rt := Q } σ' (upd H' a (ErrAt cls d a)), ?_, rfl, hc, h'⟩
    rintro cls d σ' H' ⟨he, hk⟩ hl
    refine ⟨he, fun a na => ?_⟩
    exact ⟨.ref a, by rw [List.getElem?_set_self (by omega)] <;> rfl, fun na' => hk a na' _ (by simp [hl]) (by rw [List.getElem?_set_ne (by decide), List.getElem?_set_self (by simp [hl])] <;> rfl)⟩
/-! ### what stays while tables grow and the drawer draws -/
/-- H without its tables, and without what stands at t -/
def strip (t : Addr) (H : Hp) : Hp := fun a => if a = t then none else match H a with
  | some (.tbl _) => none
  | o => o
theorem strip_at {t a : Addr} {H : Hp} {o : HO} (h : H a = some o) (ht : a ≠ t) (hn : ∀ ps, o ≠ .tbl ps) : strip t H a = some o := by
  unfold strip
  rw [if_neg ht, h]
  split
  · rename_i ps e
    exact absurd (Option.some.inj e) (hn ps)
  · rfl
theorem strip_le {t a : Addr} {H : Hp} {o : HO} (h : strip t H a = some o) : a ≠ t ∧ H a = some o ∧ ∀ ps, o ≠ .tbl ps := by
  unfold strip at h
  by_cases z : a = t
  · rw [if_pos z] at h
    cases h
  · rw [if_neg z] at h
    refine ⟨z, ?_⟩
    split at h
    · cases h
    · rename_i hh
      refine ⟨h, fun ps e => ?_⟩
      rw [e] at h
      exact hh ps h
theorem strip_new {t a : Addr} {H : Hp} (h : H a = none) : strip t H a = none := by
  unfold strip
  split
  · rfl
  · rw [h]
theorem strip_ex {t : Addr} {H : Hp} : Evl.Ex (strip t H) H := fun a o h => (strip_le h).2.1
theorem strip_n {t : Addr} {H H' : Hp} (e : ExtN H H') : Evl.Ex (strip t H) H' := fun a o h => e a o (strip_le h).2.1 (strip_le h).2.2
theorem strip_nt {t : Addr} {H : Hp} : ∀ a ps, strip t H a ≠ some (.tbl ps) := fun a ps h => (strip_le h).2.2 ps rfl
/-- B, which holds no table, stands; so do the tables -/
structure Live (T : List (Addr × Str)) (B H : Hp) : Prop where
  ex : Evl.Ex B H
  nt : ∀ a ps, B a ≠ some (.tbl ps)
  tabs : Tabs T H
theorem Live.exN {T : List (Addr × Str)} {B H H' : Hp} (l : Live T B H) (e : ExtN H H') (t : Tabs T H') : Live T B H' := ⟨fun a o h => e a o (l.ex a o h) fun ps z => l.nt a ps (z ▸ h), l.nt, t⟩
theorem Live.go {T : List (Addr × Str)} {B H H' : Hp} (l : Live T B H) (e : Evl.Ex H H') : Live T B H' := ⟨l.ex.trans e, l.nt, l.tabs.ext e⟩
theorem Live.add {T : List (Addr × Str)} {B H : Hp} {p : Addr} {o : HO} (l : Live T B H) (h : H p = some o) (ho : ∀ ps, o ≠ .tbl ps) : Live T (upd B p o) H := ⟨fun a u e => by
  by_cases z : a = p
  · rw [z, upd_same] at e
    rw [z, h]
    exact e
  · rw [upd_ne z] at e
    exact l.ex a u e, fun a ps => by
  by_cases z : a = p
  · rw [z, upd_same]
    exact fun e => ho ps (Option.some.inj e)
  · rw [upd_ne z]
    exact l.nt a ps, l.tabs⟩
theorem Live.fresh {T : List (Addr × Str)} {B H : Hp} {p : Addr} (l : Live T B H) (h : H p = none) : B p = none := by
  cases e : B p with
  | none => rfl
  | some o =>
    have := l.ex p o e
    rw [h] at this
    cases this
section
variable {K : PySem.W.Frag} {σ : L2.St} {G : Hp}
theorem ev_isK {a D : Addr} {d : Option Addr} {fs : List (Str × V)} {c : Addr} {b : Bool} {i : Nat} (hσ : σ[i]? = some (some (.ref a))) (ha : G a = some (ErrAt (.ref D) d a)) (hd : DictAt G d fs) (E : ErrC K D) (hk : PySem.W.kitOne K (.ref D) (.ref c) = some b) :
    Evl.Ev (tCB (fun xs H Q => rIsi K xs H Q ∨ rIsK K xs H Q) (tCons (tVar i) (tCons (tC (.ref c)) tNil))) σ G (.bl b) := fun H1 e Q q =>
  ⟨.ref a, hσ, .inr ⟨a, D, d, fs, .ref c, .ref c, b, rfl, e _ _ ha, hd.imp fun x ⟨y, z⟩ => ⟨y, e _ _ z⟩, E, .own c, hk, q H1 (Evl.Ex.refl H1)⟩⟩
theorem ev_isNone {c : Addr} {b : Bool} {i : Nat} (hσ : σ[i]? = some (some .non)) (hk : PySem.W.kitOne K (.type "NoneType") (.ref c) = some b) :
    Evl.Ev (tCB (fun xs H Q => rIsi K xs H Q ∨ rIsK K xs H Q) (tCons (tVar i) (tCons (tC (.ref c)) tNil))) σ G (.bl b) := fun H1 e Q q =>
  ⟨.non, hσ, .inl ⟨.non, .ref c, .type "NoneType", .ref c, b, rfl, .own c, .base .non, hk, q H1 (Evl.Ex.refl H1)⟩⟩
theorem ev_keptF {a D : Addr} {d : Option Addr} {fs : List (Str × V)} {f : Str} {v : V} {i : Nat} (hσ : σ[i]? = some (some (.ref a))) (ha : G a = some (ErrAt (.ref D) d a)) (hd : DictAt G d fs) (E : ErrC K D) (hn : PySem.W.findIn K (.ref D) f = some none) (hl : fs.lookup f = some v) :
    Evl.Ev (tKeptF K f (tVar i)) σ G v := fun H1 e Q q => ⟨.ref a, hσ, a, D, d, fs, v, rfl, e _ _ ha, hd.imp fun x ⟨y, z⟩ => ⟨y, e _ _ z⟩, E, hn, hl, q H1 (Evl.Ex.refl H1)⟩
/-- a lambda heard that raises an error of the class D: a new tuple -/
theorem lam_raise {T : List (Addr × Str)} {CS D : Addr} {tr : TS} {t : XK → TE} {B H : Hp} {Q : VK} {fs : List (Str × V)} {vs : List V} (l : Live T B H) (hx : PySem.W.exmOne K (.ref D) (.ref CS) = some true)
    (ht : ∀ H1 E Q', Evl.Ex B H1 → (∀ H2 d, Evl.Ex H1 H2 → H2 d = none → E (.ref D) (some d) (upd H2 d (.xd fs))) → t E σ H1 Q')
    (hr : ∀ (G : Hp) (a d : Addr) (σ' : L2.St) (D' : Ends), G a = some (ErrAt (.ref D) (some d) a) → DictAt G (some d) fs → σ'.length = 3 → σ'[1]? = some (some (.ref a)) → (∀ p G', G p = none → Evl.Ex G G' → G' p = some (.tup vs) → D'.rt (.ref p) G') → tr D' σ' G)
    (k : ∀ p H3, Live T (upd B p (.tup vs)) H3 → H3 p = some (.tup vs) → B p = none → Q (.ref p) H3) : tLam T (THeardS K CS tr) t σ H Q := by
  refine ⟨l.tabs, fun H1 eN T1 f => ht H1 _ _ (l.exN eN T1).ex fun H2 d e2 hd => ⟨hx, fun a na σ' hl hσ => ?_⟩⟩
  have ad : d ≠ a := fun z => by rw [← z, upd_same] at na; cases na
  have eG : Evl.Ex H1 (upd (upd H2 d (.xd fs)) a (ErrAt (.ref D) (some d) a)) := (e2.trans (Evl.Ex.new hd)).trans (Evl.Ex.new na)
  refine hr _ a d σ' _ upd_same ⟨d, rfl, by rw [upd_ne ad, upd_same]⟩ hl hσ fun p G' hp e hG' => ?_
  have L := ((l.exN eN T1).go eG).go e
  refine k p G' (L.add hG' fun ps z => nomatch z) hG' ?_
  exact ((l.exN eN T1).go eG).fresh hp
/-- a lambda heard that raises nothing -/
theorem lam_calm {T : List (Addr × Str)} {CS : Addr} {tr : TS} {t : XK → TE} {B H : Hp} {Q : VK} (l : Live T B H)
    (ht : ∀ H1 E Q', Evl.Ex B H1 → (∀ v H2, Evl.Ex H1 H2 → Q' v H2) → t E σ H1 Q')
    (hr : ∀ (G : Hp) (f : Addr) (D' : Ends), (∀ G', Evl.Ex G G' → D'.rt .non G') → tr D' [some (.ref f), some .non, none] G)
    (k : ∀ H3, Live T B H3 → Q .non H3) : tLam T (THeardS K CS tr) t σ H Q :=
  ⟨l.tabs, fun H1 eN T1 f => ht H1 _ _ (l.exN eN T1).ex fun v H2 e2 => hr H2 f _ fun G' e => k G' (((l.exN eN T1).go e2).go e)⟩
end
end Hk
end S_Wk
section S_Ws
namespace Hk
open PySem PySem.Spec PyProof.Rows L2 LamX Tl
/-- isinstance(e, (c1, c2, ..)) of a kept error -/
def rIsKT (K : PySem.W.Frag) : List V → Hp → VK → Prop := fun xs H Q => ∃ (a D tp : Addr) (d : Option Addr) (fs : List (Str × V)) (cs : List V) (us : List Value) (b : Bool), xs = [.ref a, .ref tp] ∧ H a = some (ErrAt (.ref D) d a) ∧ DictAt H d fs ∧ ErrC K D ∧ H tp = some (.tup cs) ∧ Paired ClsV cs us ∧ PySem.W.kitAny K (.ref D) us = some b ∧ Q (.bl b) H
theorem call_isKeptT {X : Cx} : CallR X (.builtin "isinstance") (rIsKT X.K) := by
  intro pins s σ H xs us Q I r h
  obtain ⟨a, D, tp, d, fs, cs, ws, b, rfl, ha, hd, C, hT, k, e, q⟩ := h
  obtain ⟨u1, u2, rfl, r1, r2⟩ := vals2 r
  cases (show u2 = Value.ref tp from r2)
  cases (show u1 = Value.ref a from r1)
  obtain ⟨oe, od, mA, J, _, _⟩ := at_inst I ha hd
  obtain ⟨_, its, rv, o, h1, h2, n, h3⟩ := (show ObjOk X.prog X.w H s.heap tp (.tup cs) from I.hok tp _ hT)
  have e3 := ClsV.all k rv
  subst e3
  obtain ⟨oc, od', dt, sl⟩ := o
  simp only at h2 h3
  subst h2 h3
  exact PySem.W.kia_tup (PySem.W.kitx_exc C.ci C.ga C.gg C.ex C.ha C.hn C.ht C.hm) I.kIn J h1 e (fun z => nomatch z) fun tk => ⟨.bl b, H, I.kept (t' := tk) fun _ _ z => z, rfl, q⟩
theorem call_isAnyT {X : Cx} : CallR X (.builtin "isinstance") (fun xs H Q => rIsiT X.K xs H Q ∨ rIsKT X.K xs H Q) := by
  intro pins s σ H xs us Q I r h
  rcases h with h | h
  · exact call_isiT _ _ _ _ _ _ _ I r h
  · exact call_isKeptT _ _ _ _ _ _ _ I r h
section
variable {K : PySem.W.Frag} {σ : L2.St} {G : Hp}
theorem ev_isKT2 {a D : Addr} {d : Option Addr} {fs : List (Str × V)} {c1 c2 : Addr} {b : Bool} {i : Nat} (hσ : σ[i]? = some (some (.ref a))) (ha : G a = some (ErrAt (.ref D) d a)) (hd : DictAt G d fs) (E : ErrC K D) (hk : PySem.W.kitAny K (.ref D) [.ref c1, .ref c2] = some b) :
    Evl.Ev (tCB (fun xs H Q => rIsiT K xs H Q ∨ rIsKT K xs H Q) (tCons (tVar i) (tCons (tTup (tCons (tC (.ref c1)) (tCons (tC (.ref c2)) tNil))) tNil))) σ G (.bl b) := fun H1 e Q q =>
  ⟨.ref a, hσ, by show 2 ≤ sizeLine; decide, fun tp htp => .inr ⟨a, D, tp, d, fs, [.ref c1, .ref c2], [.ref c1, .ref c2], b, rfl, (e.trans (Evl.Ex.new htp)) _ _ ha, hd.imp fun x ⟨y, z⟩ => ⟨y, (e.trans (Evl.Ex.new htp)) _ _ z⟩, E, upd_same, .cons (.own c1) (.cons (.own c2) .nil), hk, q _ (Evl.Ex.new htp)⟩⟩
end
end Hk
end S_Ws
section S_Wu
namespace Hk
open PySem PySem.Spec PyProof.Rows L2 LamX Tl
/-- a text backward -/
def revS (z : Str) : Str := ⟨((Builtin.Str.strSliceIndices none none (-1) z.length).filterMap (z.cps[·]?)).toArray⟩
def tRevS (te : TE) : TE := fun σ H Q => te σ H fun x H1 => ∃ z, x = .str z ∧ (revS z).length ≤ sizeLine ∧ Q (.str (revS z)) H1
theorem pe_revS {X : Cx} {e : Expr} {te : TE} {k : Nat} {p1 p2 p3 pos : Pos} (he : PE X e te) : PE X (.Subscript e (.Slice none none (some (.UnaryOp .USub (.Constant (.int 1) k p1) p2)) p3) pos) (tRevS te) := by
  refine ⟨fun pins s σ H Q I h => ?_⟩
  refine Subscript_ (thn (he.run pins s σ H _ I h) fun v s1 ⟨x, H1, I1, r1, q1⟩ => ?_)
  obtain ⟨z, ex, hz, q⟩ := q1
  subst ex
  obtain ⟨t, rfl⟩ := r1
  have hst : PO X (some (.UnaryOp .USub (.Constant (.int 1) k p1) p2)) (tPart (tUn (rU fun i => .int (-i)) (tC (.int 1)))) := po_some (pe_un un_neg pe_int)
  refine wpAny_Slice (thn (po_none.run pins s1 σ H1 (fun o H2 => o = none ∧ H2 = H1) I1 ⟨rfl, rfl⟩) fun vl s2 ⟨l, H2, I2, pl, el, e2⟩ => ?_)
  subst el e2
  refine thn (po_none.run pins s2 σ H2 (fun o H3 => o = none ∧ H3 = H2) I2 ⟨rfl, rfl⟩) fun vu s3 ⟨u, H3, I3, pu, eu, e3⟩ => ?_
  subst eu e3
  refine thn (hst.run pins s3 σ H3 (fun o H4 => o = some (-1) ∧ H4 = H3) I3 ⟨1, rfl, -1, rfl, rfl, rfl⟩) fun vs s4 ⟨o, H4, I4, ps, eo, e4⟩ => ?_
  subst eo e4
  have I5 : Inv X pins σ H4 { s4 with heap := s4.heap.push { cls := .type "slice", data := .fields #[vl, vu, vs] } } := I4.kept (t' := s4.toks) fun b ob q => Heap.get?_push_of_some _ q
  obtain ⟨l', rfl, el⟩ := IsPart.raw pl
  obtain ⟨u', rfl, eu⟩ := IsPart.raw pu
  obtain ⟨st', rfl, es⟩ := IsPart.raw ps
  show wpAny (model X.prog X.w) X.A (subscriptTail e (.Slice none none (some (.UnaryOp .USub (.Constant (.int 1) k p1) p2)) p3) (.str z t) (.ref s4.heap.objs.size)) (EP X pins σ Q) X.xe { s4 with heap := s4.heap.push { cls := .type "slice", data := .fields #[partValue l', partValue u', partValue st'] } }
  refine tail_any (ops := [.str z t, .ref s4.heap.objs.size]) (typeIs_str _ _ _) (F.slot_str_getitem.lookup) ?_ (by with_unfolding_all rfl)
  refine wpAny_getItem_str_slice (l := l') (u := u') (st := st') ⟨_, Heap.get?_push_size _ rfl, rfl, rfl⟩ (by rw [es]; rfl) ?_
  unfold sliceMade slicePicked
  rw [el, eu, es]
  have hne : ¬((((some (-1) : Option Int).getD 1 == 1) && (Builtin.Str.strSliceIndices none none ((some (-1) : Option Int).getD 1) z.length).length == z.length) = true) := by
    show ¬((false && _) = true)
    rw [Bool.false_and]
    exact Bool.false_ne_true
  rw [if_neg hne]
  exact ⟨hz, .str (revS z), H4, I5.tok _, ⟨_, rfl⟩, q⟩
/-- a text, some times -/
def mulS (a : Str) (n : Nat) : Str := ⟨(List.replicate n a.cps).foldl (· ++ ·) #[]⟩
def rMulS : R2 := fun x y H Q => ∃ (a : Str) (n : Nat), x = .str a ∧ y = .int (n : Int) ∧ 2 ≤ n ∧ 1 ≤ a.length ∧ a.length * n ≤ 1000 ∧ Q (.str (mulS a n)) H
theorem op_mulS {X : Cx} : OpR X (binaryOp .Mult) rMulS := by
  intro pins s σ H x y v u Q I rx ry h
  obtain ⟨a, n, rfl, rfl, h2, h1, hz, q⟩ := h
  obtain ⟨t, rfl⟩ := rx
  obtain ⟨t2, rfl⟩ := ry
  have hn : n ≤ 1000 := Nat.le_trans (Nat.le_mul_of_pos_left n h1) hz
  have hlong : Builtin.Str.tooLong (a.length * ((n : Int)).toNat) = false := by
    rw [Int.toNat_natCast]
    refine decide_eq_false fun z => ?_
    rw [sizeLine_eq] at z
    exact absurd (Nat.lt_of_lt_of_le z hz) (by decide)
  refine PySem.P.mul_str ?_ (fun _ _ => ?_) (fun _ _ => hlong) ?_
  · rw [decide_eq_false (by omega), decide_eq_false (by omega)]
    rfl
  · have : ((a.length : Nat) : Int) ≤ (2 ^ 63 - 1) / (n : Int) := by
      refine (Int.le_ediv_iff_mul_le (by omega)).mpr ?_
      have : ((a.length : Nat) : Int) * (n : Int) = ((a.length * n : Nat) : Int) := by rw [Int.natCast_mul]
      rw [this]
      have h3 : ((a.length * n : Nat) : Int) ≤ 1000 := by exact_mod_cast hz
      exact Int.le_trans h3 (by decide)
    omega
  · rw [if_neg (by omega), if_neg (by
      rw [Bool.or_eq_true_iff, beq_iff_eq, beq_iff_eq]
      omega), Int.toNat_natCast]
    exact ⟨PySem.fits_reps (by rw [← hlong, Int.toNat_natCast]), .str (mulS a n), H, I.tok _, ⟨_, rfl⟩, q⟩
end Hk
end S_Wu
section S_Wt
namespace Hk
open PySem PySem.Spec PyProof.Rows L2 LamX Tl
/-- the law's own call where no repr is under way, its code object's table tracked -/
theorem law_gTs {P : Program} {w : World} {K : PySem.W.Frag} {mg mb : Str → Option Value} {k : Nat} {fa a : Addr} {Ts : List (Addr × Addr)} {fd : FuncData} {x : Str} {sp : Sp} {s₁ : Shared} {vs : List Value} {ns : List Int}
    (kin : K.In s₁.heap) (hns : s₁.heap.Ns mainGlobals mg) (hb : s₁.heap.Ns builtinsNs mb) (hbb : ∀ x : Str, x ≠ "__name__" → mb x = bootBuiltins x) (hlim : s₁.heap.NoLimit) (hg : s₁.gens = #[])
    (hTs : ∀ p ∈ Ts, s₁.heap.get? p.2 = some { cls := .none, data := .fields #[] } ∧ K.lookup p.2 = none ∧ PySem.W.CodeHd s₁.heap p.1 p.2)
    (hbm : ∃ (bm : Addr) (ob : Obj), mg "__builtins__" = some (.ref bm) ∧ bm ≠ builtinsNs ∧ s₁.heap.get? bm = some ob ∧ ob.cls = .type "module" ∧ ob.dict = some builtinsNs ∧ ob.data = .plain)
    (ha : s₁.heap.get? a = some { cls := .type "list", data := .seq vs.toArray }) (hi : IntsAre vs ns) (hl : ns.length ≤ sizeLine) (hr : Room k callerA)
    (F : ∀ base : Heap, K.In base → base.Ns mainGlobals mg → (∀ p ∈ Ts, TabB base mg p.1 p.2) → FnG P w K mg base k fa fd [x] sp) (hbind : ∀ (s : Shared) (u : Value), BindsTo s fd ⟨[u], []⟩ [(x, u)])
    (hsp : ∀ H : Hp, (∀ p ∈ Ts, H p.2 = some (.tbl #[])) → SqL K H a (ns.map V.int) → sp [.ref a] H (fun v _ => v = .bl true) fun _ _ _ => False) :
    codeAny (model P w) callerA (.call (.ref fa) ⟨[.ref a], []⟩) (fun r s' => r = .ok (.ret (.bool true)) ∧ OldK s₁.heap s'.heap ∧ s'.os = s₁.os ∧ AllBare s'.gens) s₁ := by
  have rv := vals_ints hi
  have tbl : ∀ {b : Addr}, b ∈ Ts.map (·.2) → s₁.heap.get? b = some { cls := .none, data := .fields #[] } ∧ K.lookup b = none := fun {b} hb => by
    obtain ⟨p, hp, rfl⟩ := List.mem_map.mp hb
    exact ⟨(hTs p hp).1, (hTs p hp).2.1⟩
  have aT : a ∉ Ts.map (·.2) := fun z => by
    rw [(tbl z).1] at ha
    have z' : Data.fields #[] = Data.seq vs.toArray _ := congrArg Obj.data (Option.some.inj ha)
    cases z'
  have run : ∀ H : Hp, (∀ p ∈ Ts, H p.2 = some (.tbl #[])) → SqL K H a (ns.map V.int) → HOk P w H s₁.heap → (∀ b u, H b = some u → b ∈ Ts.map (·.2) ∨ (b = a ∧ K.lookup a = none ∧ ∃ o xs, u = .frz o (.lst xs))) →
      codeAny (model P w) callerA (.call (.ref fa) ⟨[.ref a], []⟩) (fun r s' => r = .ok (.ret (.bool true)) ∧ OldK s₁.heap s'.heap ∧ s'.os = s₁.os ∧ AllBare s'.gens) s₁ := by
    intro H hHT hS hok hA
    have keepB : ∀ {b : Addr} {o : Obj}, s₁.heap.get? b = some o → (∀ vs n, o.data ≠ .seq vs n) → o.data ≠ .fields #[] → (hidT s₁.heap H).get? b = some o := fun {b o} e h1 h2 => by
      refine hidT_get e ?_
      cases q : H b with
      | none => rfl
      | some u =>
        rcases hA b u q with e1 | ⟨e1, _⟩
        · rw [(tbl e1).1] at e
          cases e
          exact absurd rfl h2
        · rw [e1, ha] at e
          cases e
          exact absurd rfl (h1 _ _)
    have ns_of : ∀ {b : Addr} {m : Str → Option Value}, s₁.heap.Ns b m → (hidT s₁.heap H).Ns b m := fun {b m} hm => by
      obtain ⟨o, es, ep, e, d, r⟩ := hm
      exact ⟨o, es, ep, keepB e (fun vs n z => by rw [d] at z; cases z) (fun z => by rw [d] at z; cases z), d, r⟩
    have kb : K.In (hidT s₁.heap H) := fun b o e => hidT_get (kin b o e) (by
      cases q : H b with
      | none => rfl
      | some u =>
        rcases hA b u q with e1 | ⟨e1, e2, _⟩
        · rw [(tbl e1).2] at e
          cases e
        · rw [e1, e2] at e
          cases e)
    have hM : Mod K mg (hidT s₁.heap H) := ⟨kb, ns_of hns, ⟨mb, ns_of hb, hbb⟩, hlim.elim fun mc h => ⟨mc, ns_of h.1, h.2⟩⟩
    have e0 : Env0 P w K mg (hidT s₁.heap H) callerA [] s₁ H := ⟨rfl, hM, fun _ _ e => of_hidT e, by rw [hidT_size] <;> exact Nat.le_refl _, trivial, fun _ hb => (nomatch hb), hok, .of_eq hg⟩
    have TB : ∀ p ∈ Ts, TabB (hidT s₁.heap H) mg p.1 p.2 := fun p hp => by
      obtain ⟨hT, nT, hC⟩ := hTs p hp
      refine ⟨?_, ?_, fun z => ?_⟩
      · obtain ⟨o, us, file, tf, flags, tg, inF, text, tt, e1, r1, r2, r3, r4⟩ := hC
        exact ⟨o, us, file, tf, flags, tg, inF, text, tt, keepB e1 (fun vs n z => by rw [r2] at z; cases z) (fun z => by rw [r2] at z; cases z; simp at r3), r1, r2, r3, r4⟩
      · obtain ⟨bm, ob, b1, b2, b3, b4, b5, b6⟩ := hbm
        refine ⟨bm, ob, b1, b2, fun q => ?_, fun q => ?_, keepB b3 (fun vs n z => by rw [b6] at z; cases z) (fun z => by rw [b6] at z; cases z), b4, b5, b6⟩
        · obtain ⟨o, es, ep, e, hd, _⟩ := hns
          rw [q, e] at b3
          cases b3
          rw [hd] at b6
          cases b6
        · rw [q, hT] at b3
          cases b3
          cases b6
      · obtain ⟨o, es, ep, e, hd, _⟩ := hns
        rw [z, hT] at e
        cases e
        cases hd
    refine codeAny_mono ((F _ kb (ns_of hns) TB).go rfl hr e0 (us := [.ref a]) (hbind s₁ (.ref a)) (vs := [.ref a]) (.cons rfl .nil) (hsp H hHT hS)) fun r s' h => ?_
    match r, h with
    | .ok (.ret u), h =>
      obtain ⟨v, H', os, bare, un, hok', r', q⟩ := h
      cases (show v = .bl true from q)
      cases (show u = Value.bool true from r')
      have grown : ∀ p ∈ Ts, ∃ more, s'.heap.get? p.2 = some { cls := .none, data := .fields more } := fun p hp => by
        obtain ⟨more, zT⟩ := un.tbls p.2 #[] (hHT p hp)
        have q := hok' p.2 _ zT
        rw [Array.empty_append] at q
        exact ⟨more, q⟩
      have others : ∀ b o, b ∉ Ts.map (·.2) → s₁.heap.get? b = some o → s'.heap.get? b = some o := fun b o nb e => by
        cases q : H b with
        | none => exact un.keep b o e q (fun y => (nomatch y)) (fun y => (nomatch y))
        | some u =>
          rcases hA b u q with z | ⟨_, _, ob, xs, rfl⟩
          · exact absurd z nb
          · obtain ⟨e1, _⟩ := hok b _ q
            obtain ⟨e2, _⟩ := hok' b _ (un.frzs b ob _ q)
            rw [e] at e1
            cases e1
            exact e2
      refine ⟨rfl, ⟨fun b o e => ?_, fun b o e => ?_⟩, os, bare⟩
      · by_cases hb : b ∈ Ts.map (·.2)
        · obtain ⟨p, hp, rfl⟩ := List.mem_map.mp hb
          obtain ⟨hT, _, hC⟩ := hTs p hp
          obtain ⟨more, hm⟩ := grown p hp
          rw [hT] at e
          cases e
          exact .inr (.inl ⟨(hC.tab hT).isCodeTable, rfl, #[], more, rfl, by rw [Array.empty_append]; exact hm⟩)
        · exact .inl (others b o hb e)
      · by_cases hb : b ∈ Ts.map (·.2)
        · obtain ⟨p, hp, rfl⟩ := List.mem_map.mp hb
          obtain ⟨more, hm⟩ := grown p hp
          exact ⟨_, hm⟩
        · exact ⟨o, others b o hb e⟩
    | .error e, h => exact False.elim h
    | .ok .next, h => exact False.elim h
    | .ok .brk, h => exact False.elim h
    | .ok .cont, h => exact False.elim h
  have mem : ∀ p ∈ Ts, p.2 ∈ Ts.map (·.2) := fun p hp => List.mem_map.mpr ⟨p, hp, rfl⟩
  cases hk : K.lookup a with
  | some o =>
    have e := kin a o hk
    rw [ha] at e
    cases e
    refine run (fun b => if b ∈ Ts.map (·.2) then some (.tbl #[]) else none) (fun p hp => if_pos (mem p hp)) (.inr ⟨_, vs.toArray, _, hk, rfl, rfl, rfl, ?_, by simpa using rv⟩) (fun b u z => ?_) (fun b u z => ?_)
    · rw [List.size_toArray, hi.length]
      exact hl
    · dsimp only at z
      by_cases hb : b ∈ Ts.map (·.2)
      · rw [if_pos hb] at z
        cases z
        exact (tbl hb).1
      · rw [if_neg hb] at z
        cases z
    · by_cases hb : b ∈ Ts.map (·.2)
      · exact .inl hb
      · rw [if_neg hb] at z
        cases z
  | none =>
    refine run (fun b => if b ∈ Ts.map (·.2) then some (.tbl #[]) else if b = a then some (.frz { cls := .type "list", data := .seq vs.toArray } (.lst (ns.map V.int))) else none) (fun p hp => if_pos (mem p hp)) (.inl (.inr ⟨_, by dsimp only; rw [if_neg aT, if_pos rfl]⟩)) (fun b u z => ?_) fun b u z => ?_
    · dsimp only at z
      by_cases hb : b ∈ Ts.map (·.2)
      · rw [if_pos hb] at z
        cases z
        exact (tbl hb).1
      · rw [if_neg hb] at z
        by_cases hb2 : b = a
        · rw [if_pos hb2] at z
          cases z
          subst hb2
          exact ⟨ha, by rw [List.length_map]; exact hl, vs, _, rv, ha⟩
        · rw [if_neg hb2] at z
          cases z
    · by_cases hb : b ∈ Ts.map (·.2)
      · exact .inl hb
      · rw [if_neg hb] at z
        by_cases hb2 : b = a
        · rw [if_pos hb2] at z
          cases z
          exact .inr ⟨hb2, hk, _, _, rfl⟩
        · rw [if_neg hb2] at z
          cases z
/-- what is known of a def whose lambdas' table is tracked -/
def TabOf (K : PySem.W.Frag) (mg : Str → Option Value) (q : Program) (p : Addr × Addr) : Prop := ∃ (name : Str) (f : Addr) (fd : FuncData) (o : Obj) (e : Value) (dd : Option Addr) (vs : Array Value) (sl : Array (Option Value)),
  ((recsOf q).any fun e => e.name == name) = true ∧ mg name = some (.ref f) ∧ K.lookup f = some o ∧ o.data = .func fd ∧ fd.code = .ref p.1 ∧ K.lookup p.1 = some ⟨e, dd, .fields vs, sl⟩ ∧ vs[11]? = some (.ref p.2) ∧ K.lookup p.2 = none
theorem walk_gTs {l : PySem.W.OpenLaw} {n k : Nat} {q : Program} {loose : List Str} {XP : (Str → Option Value) → Heap → Prop} {YP : World → Heap → Prop} {d : DefRec} {K : Params → PySem.W.Frag} {x : Str}
    (hn : l.most = some n) (hn2 : n ≤ sizeLine) (hdf : d.params.defaults = []) (hr : Room k callerA) (hY : ∀ (w : World) (h : Heap), YP w h → (K w.params).In h)
    (F : ∀ (w : World) (mg : Str → Option Value) (fa : Addr) (h : Heap), (K w.params).In h → h.Ns mainGlobals mg → mg d.name = some (.ref fa) →
      ∃ (fd : FuncData) (Ts : List (Addr × Addr)) (sp : Sp), (∀ p ∈ Ts, TabOf (K w.params) mg q p) ∧ (∀ (s : Shared) (u : Value), BindsTo s fd ⟨[u], []⟩ [(x, u)]) ∧
        (∀ (H : Hp) (a : Addr) (ns : List Int), ns.length ≤ n → (∀ p ∈ Ts, H p.2 = some (.tbl #[])) → SqL (K w.params) H a (ns.map V.int) → sp [.ref a] H (fun v _ => v = .bl true) fun _ _ _ => False) ∧
        ∀ base : Heap, (K w.params).In base → base.Ns mainGlobals mg → (∀ p ∈ Ts, TabB base mg p.1 p.2) → FnG l.prog w (K w.params) mg base k fa fd [x] sp) :
    PySem.W.WalkO q loose XP YP l.row.toRowW d [] (fun f vs => PySem.call f vs) := by
  refine Att.attach_call hn hdf fun w s₀ s₁ mg mb fa o pm cd doc a vs ns G Y ho hd hcd hmg hobj hints hlen hg => ?_
  have kin := hY w _ Y
  obtain ⟨fd, Ts, sp, hTs, h1, hs, h2⟩ := F w mg fa _ kin G.T.g hmg
  have ts : ∀ p ∈ Ts, s₁.heap.get? p.2 = some { cls := .none, data := .fields #[] } ∧ (K w.params).lookup p.2 = none ∧ PySem.W.CodeHd s₁.heap p.1 p.2 := fun p hp => by
    obtain ⟨name, f, fd', o1, e, dd, us, sl, hrec, hmf, k1, k2, k3, k4, k5, nT⟩ := hTs p hp
    obtain ⟨dL, hm, hn1⟩ := List.any_eq_true.mp hrec
    have hn2' : dL.name = name := beq_iff_eq.mp hn1
    obtain ⟨a', o', fd2, c', P', g1, g2, g3, g4, g5, g6⟩ := G.T.tab dL hm
    rw [hn2', hmf] at g1
    cases g1
    have q1 := kin _ _ k1
    rw [q1] at g2
    cases g2
    rw [k2] at g3
    cases g3
    rw [k3] at g4
    cases g4
    have hC := PySem.W.CodeHd.of g5 g6
    obtain ⟨⟨oc, vc, e1, _, e3, e4⟩, hP⟩ := g6
    have q2 := kin _ _ k4
    rw [q2] at e1
    cases e1
    cases e3
    rw [k5] at e4
    cases e4
    exact ⟨hP, nT, hC⟩
  exact law_gTs kin G.T.g G.T.b G.T.builtins G.T.nolimit hg ts G.T.bmain hobj hints (Nat.le_trans hlen hn2) hr h2 h1 fun H hHT hS => hs H a ns hlen hHT hS
end Hk
end S_Wt
section S_Wv
namespace Hk
open PySem PySem.Spec PyProof.Rows L2 LamX Tl
/-- repr of data at an address, of None or of a truth -/
def rReprX (K : PySem.W.Frag) : List V → Hp → VK → Prop := fun xs H Q => rReprB K xs H Q ∨ ∃ b : Bool, xs = [.bl b] ∧ Q (.str (if b then "True" else "False")) H
theorem call_reprX {X : Cx} (hg : X.A.guards = some []) (hu : X.A.units + 64 < cLine) : CallR X (.builtin "repr") (rReprX X.K) := by
  intro pins s σ H xs us Q I r h
  rcases h with h | ⟨b, rfl, q⟩
  · exact call_reprB hg hu _ _ _ _ _ _ _ I r h
  · obtain ⟨u, rfl, ru⟩ := vals1 r
    cases ru
    exact PySem.P.repr_of_bool ⟨.str (if b then "True" else "False"), H, I.tok _, ⟨_, rfl⟩, q⟩
theorem ev_reprT {K : PySem.W.Frag} {te : TE} {σ : L2.St} {H : Hp} {b : Bool} (h : Evl.Ev te σ H (.bl b)) : Evl.Ev (tCB (rReprX K) (tCons te tNil)) σ H (.str (if b then "True" else "False")) := fun H1 e Q q =>
  h H1 e _ fun H2 e2 => .inr ⟨b, rfl, q H2 e2⟩
theorem strip_tb {T t : Addr} {H : Hp} {ps : Array Value} (hT : H T = some (.tbl ps)) {a : Addr} {o : HO} (h : H a = some o) (hn : ∀ ps, o ≠ .tbl ps) : strip T H a = some o := strip_at h (fun z => by
  rw [z, hT] at h
  exact hn ps (Option.some.inj h).symm) hn
theorem strip_extN {T : Addr} {H H' : Hp} {ps : Array Value} (hT : H T = some (.tbl ps)) (e : Evl.Ex (strip T H) H') : ExtN H H' := fun a o h hn => e a o (strip_tb (t := T) hT h hn)
end Hk
end S_Wv
section S_Wx
namespace Hk
open PySem PySem.Spec PyProof.Rows L2 LamX Tl
section
variable {prog : Program} {w : World} {A : Around} {E : Value → Shared → Prop} {s : Shared}
theorem applied_rev {sl : Addr} {vs : Value} {n : Nat} {Q : Int × Int × Nat → Shared → Prop} (hs : s.heap.IsSliceOf sl .none .none vs) (ps : IsPart vs (some (-1)))
    (h : Q ((n : Int) - 1, -1, n) s) : wpAny (model prog w) A (Builtin.Slice.sliceApplied (.ref sl) (pure (n : Int))) Q E s := by
  obtain ⟨os, hos, hcs, hds⟩ := id hs
  unfold Builtin.Slice.sliceApplied Builtin.Slice.sliceFields
  refine wpAny_bind (wpAny_bind (wpAny_field hos hds (x := .none) rfl (wpAny_bind (wpAny_field hos hds (x := .none) rfl (wpAny_bind (wpAny_field hos hds (x := vs) rfl (wpAny_pure ?_)))))))
  refine wpAny_bind (HT.slicePart_ ps ?_)
  show wpAny _ _ (if ((-1 : Int) == 0) = true then _ else _) _ _ s
  rw [if_neg (by decide)]
  refine wpAny_bind (HT.slicePart_ .none (wpAny_bind (HT.slicePart_ .none (wpAny_bind (wpAny_pure ?_)))))
  show wpAny _ _ (pure ((n : Int) - 1, (-1 : Int), Builtin.Slice.slicePlaces ((n : Int) - 1) (-1) (-1))) _ _ s
  have e : Builtin.Slice.slicePlaces ((n : Int) - 1) (-1) (-1) = n := by
    unfold Builtin.Slice.slicePlaces
    rw [if_neg (by decide)]
    by_cases z : n = 0
    · subst z; decide
    · rw [if_pos (by omega)]
      have : ((n : Int) - 1 - -1 - 1) / (- -1) = (n : Int) - 1 := by
        rw [Int.neg_neg, Int.ediv_one]
        omega
      rw [this]
      omega
  rw [e]
  exact wpAny_pure h
theorem fm_congr {α β : Type} {f g : α → Option β} : ∀ {l : List α}, (∀ x ∈ l, f x = g x) → l.filterMap f = l.filterMap g
  | [], _ => rfl
  | a :: r, h => by rw [List.filterMap_cons, List.filterMap_cons, h a List.mem_cons_self, fm_congr fun x hx => h x (List.mem_cons_of_mem _ hx)]
theorem pick_rev (xs : Array Value) : ((List.range xs.size).filterMap fun (m : Nat) => xs[((xs.size : Int) - 1 + (m : Int) * (-1)).toNat]?).toArray = xs.toList.reverse.toArray := by
  have h := HT.pick_gen xs.reverse 0 xs.size
  have e : ((List.range xs.size).filterMap fun (m : Nat) => xs[((xs.size : Int) - 1 + (m : Int) * (-1)).toNat]?) = (List.range xs.size).filterMap fun (m : Nat) => xs.reverse[(((0 : Nat) : Int) + (m : Int) * 1).toNat]? := by
    refine fm_congr fun m hm => ?_
    have hm := List.mem_range.mp hm
    have h1 : ((xs.size : Int) - 1 + (m : Int) * (-1)).toNat = xs.size - 1 - m := by omega
    have h2 : (((0 : Nat) : Int) + (m : Int) * 1).toNat = m := by omega
    rw [h1, h2, Array.getElem?_reverse hm]
  rw [e, h, List.drop_zero, List.take_of_length_le (by simp)]
  simp
theorem getItem_tuple_rev {t sl : Addr} {items : Array Value} {vs : Value} {Q : Value → Shared → Prop} (ht : IsTup s.heap t items) (hs : s.heap.IsSliceOf sl .none .none vs) (ps : IsPart vs (some (-1)))
    (h : Q (.ref s.heap.objs.size) { s with heap := s.heap.push { cls := .type "tuple", data := .seq items.toList.reverse.toArray } })
    (hsz : items.size ≤ sizeLine) : wpAny (model prog w) A (getItem (.ref t) (.ref sl)) Q E s := by
  have htake : sizeOk (.seq items.toList.reverse.toArray) := by
    show items.toList.reverse.toArray.size ≤ sizeLine
    rw [List.size_toArray, List.length_reverse, Array.length_toList]
    exact hsz
  obtain ⟨os, hos, hcs, hds⟩ := id hs
  have hTs : s.TypeIs (.ref sl) "slice" := ⟨os, hos, hcs⟩
  unfold getItem
  try with_reducible refine wpAny_holding ?_
  first | refine wpAny_bind (wpAny_pure ?_) | skip
  refine wpAny_bind (wpAny_sequenceKey ht.typeIs (by decide) ?_)
  refine wpAny_bind (wpAny_callSpecial?_slot (name := Str.ofString "__getitem__") ht.typeIs PyProof.Rows.slot_tuple_getitem
    (wpAny_call_entry PyProof.Rows.slot_tuple_getitem ht.typeIs PyProof.Rows.entry_tuple_getitem ?_ (PyProof.Rows.args_tuple_getitem _ _)))
  show wpAny _ _ (Builtin.Tuple.tupleItemsOf (.ref t) >>= _) _ _ s
  refine wpAny_bind (tupleItemsOf_ ht ?_)
  refine wpAny_bind (wpAny_typeOf hTs ?_)
  rw [if_pos (by decide)]
  refine wpAny_bind (applied_rev hs ps ?_)
  have hno : ¬ ((((items.size : Int) - 1) == 0 && (-1 : Int) == 1 && items.size == items.size) = true) := by
    rw [show ((-1 : Int) == 1) = false from rfl, Bool.and_false, Bool.false_and]
    exact Bool.false_ne_true
  show wpAny _ _ (if ((((items.size : Int) - 1) == 0 && (-1 : Int) == 1 && items.size == items.size) = true) then _ else _) _ _ s
  rw [if_neg hno, pick_rev]
  first
    | exact wpAny_bind (m := Builtin.Tuple.tupleExact _) (wpAny_newObj_type (wpAny_pure ⟨_, rfl, wpAny_pure h⟩) htake)
    | exact wpAny_bind (m := Builtin.Tuple.tupleExact _) (wpAny_newObj_type (wpAny_bind (wpAny_pure (wpAny_pure ⟨_, rfl, wpAny_pure h⟩))) htake)
    | exact wpAny_bind (wpAny_bind (m := Builtin.Tuple.tupleExact _) (wpAny_newObj_type (wpAny_pure (wpAny_pure ⟨_, rfl, wpAny_pure h⟩)) htake))
    | exact wpAny_bind (wpAny_bind (m := Builtin.Tuple.tupleExact _) (wpAny_newObj_type (wpAny_pure ⟨_, rfl, wpAny_pure h⟩) htake))
end
/-- a tuple backward -/
def tRevT (K : PySem.W.Frag) (te : TE) : TE := fun σ H Q => te σ H fun x H1 => ∃ a xs, x = .ref a ∧ SqT K H1 a xs ∧ ∀ p, H1 p = none → Q (.ref p) (upd H1 p (.tup xs.reverse))
theorem pe_revT {X : Cx} {e : Expr} {te : TE} {k : Nat} {p1 p2 p3 pos : Pos} (he : PE X e te) : PE X (.Subscript e (.Slice none none (some (.UnaryOp .USub (.Constant (.int 1) k p1) p2)) p3) pos) (tRevT X.K te) := by
  refine ⟨fun pins s σ H Q I h => ?_⟩
  refine Subscript_ (thn (he.run pins s σ H _ I h) fun v s1 ⟨x, H1, I1, r1, q1⟩ => ?_)
  obtain ⟨a, xs, ex, hx, q⟩ := q1
  subst ex
  cases r1
  have hst : PO X (some (.UnaryOp .USub (.Constant (.int 1) k p1) p2)) (tPart (tUn (rU fun i => .int (-i)) (tC (.int 1)))) := po_some (pe_un un_neg pe_int)
  refine wpAny_Slice (thn (po_none.run pins s1 σ H1 (fun o H2 => o = none ∧ H2 = H1) I1 ⟨rfl, rfl⟩) fun vl s2 ⟨l, H2, I2, pl, el, e2⟩ => ?_)
  subst el e2
  refine thn (po_none.run pins s2 σ H2 (fun o H3 => o = none ∧ H3 = H2) I2 ⟨rfl, rfl⟩) fun vu s3 ⟨u, H3, I3, pu, eu, e3⟩ => ?_
  subst eu e3
  refine thn (hst.run pins s3 σ H3 (fun o H4 => o = some (-1) ∧ H4 = H3) I3 ⟨1, rfl, -1, rfl, rfl, rfl⟩) fun vs s4 ⟨o, H4, I4, ps, eo, e4⟩ => ?_
  subst eo e4
  have I5 : Inv X pins σ H4 { s4 with heap := s4.heap.push { cls := .type "slice", data := .fields #[vl, vu, vs] } } := I4.kept (t' := s4.toks) fun b ob q => Heap.get?_push_of_some _ q
  obtain ⟨its, r, ht, hz⟩ := I5.tuple hx
  have hlen := r.length
  cases pl
  cases pu
  show wpAny (model X.prog X.w) X.A (subscriptTail e (.Slice none none (some (.UnaryOp .USub (.Constant (.int 1) k p1) p2)) p3) (.ref a) (.ref s4.heap.objs.size)) (EP X pins σ Q) X.xe { s4 with heap := s4.heap.push { cls := .type "slice", data := .fields #[.none, .none, vs] } }
  refine tail_any (ops := [.ref a, .ref s4.heap.objs.size]) ht.typeIs (PyProof.Rows.slot_tuple_getitem.lookup) ?_ (by with_unfolding_all rfl)
  refine getItem_tuple_rev ht (Heap.IsSliceOf.new _ .none .none vs) ps ?_ (by rw [List.size_toArray]; omega)
  refine ⟨.ref _, _, I5.laid (t' := s4.toks) (o := .tup xs.reverse) (fun b ob q => Heap.get?_push_of_some _ q) (Nat.le_refl _) ?_, rfl, q _ (I5.hok.fresh (Nat.le_refl _))⟩
  exact ⟨by rw [List.length_reverse]; exact hz, _, r.reverse, IsTup.new _ _⟩
end Hk
end S_Wx
section S_Wy
namespace Hk
open PySem PySem.Spec PyProof.Rows L2 LamX Tl
/-! ### a call of a def that wants no repr under way -/
theorem pe_callG {X : Cx} {k : Nat} {f : Addr} {fd : FuncData} {ps : List Str} {sp : Sp} {E : XK} {x : Str} {p pos : Pos} {e : Expr} {es : List Expr} {t : TA} (F : FnG X.prog X.w X.K X.mg X.base k f fd ps sp) (hgd : X.A.guards = some []) (hr : Room k X.A) (hg : Gl X x) (hm : X.mg x = some (.ref f))
    (hk : PySem.W.keepIn X.K (.ref f) = true) (hb : Binds X.K fd ps []) (hx : Passes CX0 X E) (ha : PA X (e :: es) t) (hdb : (x == ("__debug__" : Str)) = false := by decide) (he : starEach (e :: es) X.env = (false, eval e X.env) :: starEach es X.env := by rfl)
    (hpl : (backTo pos (starEach es X.env)).any (·.1) = false := by rfl) : PE X (.Call (.Name x p) (e :: es) [] pos) (tCall sp [] E t) := by
  constructor
  intro pins s σ H Q I h
  refine wpAny_Call_Name_kw (ld_glob I hg hm (PySem.W.callWith_K (h₀ := X.base) I.ok.mod.kin hk (thn (ha.run pos pins s σ H _ I h) fun us s1 hv => ?_) he hpl) hdb)
  obtain ⟨vs, H1, I1, r, q⟩ := hv
  rw [List.append_nil] at q
  refine ⟨I1.kIn, wpAny_call (codeAny_mono (F.go hgd hr I1.env0 (by
    have := hb s1 us I1.kIn (by rw [List.append_nil, ← r.length]; exact F.len q)
    rwa [List.append_nil] at this) r q) fun z s' hq => ?_)⟩
  match z, hq with
  | .error e, hq => exact hx pins σ H1 s1 e s' I1 hq
  | .ok (.ret u), hq => exact I1.after hq
  | .ok .next, hq => exact hq.elim
  | .ok .brk, hq => exact hq.elim
  | .ok .cont, hq => exact hq.elim
theorem FnG.mono {P : Program} {w : World} {K : PySem.W.Frag} {mg : Str → Option Value} {base : Heap} {j k : Nat} {f : Addr} {fd : FuncData} {ps : List Str} {sp : Sp} (F : FnG P w K mg base j f fd ps sp) (h : j ≤ k) : FnG P w K mg base k f fd ps sp := ⟨F.len, fun a b c d e g => F.go a (b.mono h) c d e g⟩
theorem addr_snoc {as : List Addr} {p : Addr} {i : Nat} {a : Addr} (h : (as ++ [p])[i]? = some a) : (i < as.length ∧ as[i]? = some a) ∨ (i = as.length ∧ p = a) := by
  rcases Nat.lt_or_ge i as.length with z | z
  · rw [List.getElem?_append_left z] at h
    exact .inl ⟨z, h⟩
  · rw [List.getElem?_append_right z] at h
    rcases Nat.lt_or_ge (i - as.length) 1 with y | y
    · have e : i - as.length = 0 := by omega
      rw [e] at h
      cases h
      exact .inr ⟨by omega, rfl⟩
    · rw [List.getElem?_eq_none (by rw [List.length_singleton]; exact y)] at h
      cases h
section
open Evl
variable {K : PySem.W.Frag} {σ : L2.St} {H : Hp}
/-- a comprehension whose items are new objects, one each -/
theorem go_lcN {wi : TI} {g : TG} {te : TE} {vs : List Nat} {n : Nat} {Y : Nat → Hp → V → Hp → Prop} {s : Nat → L2.St → L2.St} {o : Nat → HO} (hw : EvI wi σ H n Y) (aim : Aims g n Y s) (hs : ∀ i, wipe (s i (wipe σ vs)) vs = wipe σ vs) (hn : n ≤ 90000)
    (he : ∀ i, i < n → ∀ H1, Ex H H1 → ∀ Q : VK, (∀ p H2, H1 p = none → Ex H1 H2 → H2 p = some (o i) → Q (.ref p) H2) → te (s i (wipe σ vs)) H1 Q) (H1 : Hp) (e : Ex H H1) (Q : VK)
    (q : ∀ (D : Addr) (as : List Addr) (H2 : Hp), H1 D = none → Ex H1 H2 → H2 D = some (.lst (as.map V.ref)) → as.length = n → (∀ (i : Nat) (a : Addr), as[i]? = some a → H2 a = some (o i)) → Q (.ref D) H2) :
    tLc wi g tYes te vs σ H1 Q :=
  hw H1 e _ fun J G H2 e2 w sG D hD => lc_it w (fun i H' => Ex H2 H' ∧ ∃ as : List Addr, H' D = some (.lst (as.map V.ref)) ∧ as.length = i ∧ (∀ (k : Nat) (a : Addr), as[k]? = some a → H1 a = none ∧ H' a = some (o k) ∧ a ≠ D))
    ⟨Ex.new hD, [], upd_same, rfl, fun i v h => by simp at h⟩ (fun i H' _ p => sG H' ((e.trans e2).trans p.1) fun a o _ ha => p.1 _ _ ha)
    (fun i x A B hi p y => by
      obtain ⟨p1, as, p3, p4, p5⟩ := p
      obtain ⟨ab, k⟩ := aim i (wipe σ vs) A x B hi y
      refine k _ ⟨hs i, ?_⟩
      show te (s i (wipe σ vs)) B _
      refine he i hi B (((e.trans e2).trans p1).trans ab) _ fun p C hp eC hC => ⟨as.map V.ref, eC _ _ (ab _ _ p3), sz_lt (by rw [List.length_map]; omega), ((p1.trans ab).trans eC).mut hD, as ++ [p], ?_, by rw [List.length_append, p4] <;> rfl, fun j a ha => ?_⟩
      · rw [upd_same, List.map_append]
        rfl
      · rcases addr_snoc ha with ⟨_, ha⟩ | ⟨rfl, rfl⟩
        · obtain ⟨q1, q2, q3⟩ := p5 j a ha
          exact ⟨q1, by rw [upd_ne q3]; exact eC _ _ (ab _ _ q2), q3⟩
        · have pD : p ≠ D := fun z => by rw [z, ab _ _ p3] at hp; cases hp
          exact ⟨fresh_back ((e2.trans p1).trans ab) hp, by rw [upd_ne pD, p4]; exact hC, pD⟩)
    (fun H' p => by
      obtain ⟨p1, as, p3, p4, p5⟩ := p
      exact q D as H' (fresh_back e2 hD) (e2.trans p1) p3 p4 fun i a ha => (p5 i a ha).2.1)
end
end Hk
end S_Wy
section S_Xi
namespace EnL
open PySem PySem.Spec PyProof.Rows L2 Tl Hk
/-! ### values told by what is new -/
/-- of H what G has not -/
def nw (G H : Hp) : Hp := fun a => if (G a).isNone = true then H a else none
theorem nw_of {G H : Hp} {a : Addr} {o : HO} (h : G a = none) (h2 : H a = some o) : nw G H a = some o := by
  unfold nw
  rw [h]
  exact h2
theorem nw_at {G H : Hp} {a : Addr} {o : HO} (h : nw G H a = some o) : G a = none ∧ H a = some o := by
  unfold nw at h
  cases z : G a with
  | none => rw [z] at h; exact ⟨rfl, h⟩
  | some u => rw [z] at h; cases h
theorem nw_ex {G H : Hp} : Evl.Ex (nw G H) H := fun a o h => (nw_at h).2
theorem nw_by {G H H' : Hp} (h : ∀ a o, G a = none → H a = some o → H' a = some o) : Evl.Ex (nw G H) H' := fun a o e => h a o (nw_at e).1 (nw_at e).2
theorem nw_up {G H H' : Hp} (e : Evl.Ex H H') : Evl.Ex (nw G H) (nw G H') := fun a o h => nw_of (nw_at h).1 (e _ _ (nw_at h).2)
theorem nw_back {G G' H : Hp} (e : Evl.Ex G G') : Evl.Ex (nw G' H) (nw G H) := fun a o h => nw_of (Evl.fresh_back e (nw_at h).1) (nw_at h).2
def Mono (R : V → Hp → Prop) : Prop := ∀ v H H', Evl.Ex H H' → R v H → R v H'
section
open Evl
variable {K : PySem.W.Frag} {σ : L2.St} {G : Hp} {te : TE} {ta : TA} {R R' : V → Hp → Prop} {n : Nat}
def EvF (te : TE) (σ : L2.St) (G : Hp) (R : V → Hp → Prop) : Prop := ∀ H1, Ex G H1 → ∀ Q : VK, (∀ v H2, Ex H1 H2 → R v (nw H1 H2) → Q v H2) → te σ H1 Q
def EvAF (ta : TA) (σ : L2.St) (G : Hp) (n : Nat) (R : V → Hp → Prop) : Prop := ∀ H1, Ex G H1 → ∀ Q : List V → Hp → Prop, (∀ vs H2, Ex H1 H2 → vs.length = n → (∀ v ∈ vs, R v (nw H1 H2)) → Q vs H2) → ta σ H1 Q
theorem ef_nil : EvAF tNil σ G 0 R := fun H1 e Q q => q [] H1 (Ex.refl H1) rfl fun v h => nomatch h
theorem ef_cons {tr : TA} (m : Mono R) (h : EvF te σ G R) (hr : EvAF tr σ G n R) : EvAF (tCons te tr) σ G (n + 1) R := fun H1 e Q q => h H1 e _ fun v H2 e2 hv => hr H2 (e.trans e2) _ fun vs H3 e3 l3 h3 =>
  q (v :: vs) H3 (e2.trans e3) (by rw [List.length_cons, l3]) fun u hu => by
    rcases List.mem_cons.mp hu with z | z
    · subst z
      exact m _ _ _ (nw_up e3) hv
    · exact m _ _ _ (nw_back e2) (h3 u z)
theorem ef_c {v : V} (h : Ev te σ G v) (r : ∀ H, R v H) : EvF te σ G R := fun H1 e Q q => h H1 e Q fun H2 e2 => q v H2 e2 (r _)
theorem ef_l {xs : List V} (h : EvL te σ G xs) (r : ∀ p H, H p = some (.lst xs) → R (.ref p) H) : EvF te σ G R := fun H1 e Q q => h H1 e Q fun p H2 hp e2 h2 => q _ H2 e2 (r p _ (nw_of hp h2))
theorem ef_u {xs : List V} (h : EvU te σ G xs) (r : ∀ p H, H p = some (.tup xs) → R (.ref p) H) : EvF te σ G R := fun H1 e Q q => h H1 e Q fun p H2 hp e2 h2 => q _ H2 e2 (r p _ (nw_of hp h2))
theorem ef_d (r : ∀ p H, H p = some (.dK []) → R (.ref p) H) : EvF tDNewK σ G R := fun H1 e Q q p hp => q _ _ (Ex.new hp) (r p _ (nw_of hp upd_same))
theorem ef_lst (m : Mono R) (h : EvAF ta σ G n R) (hn : n ≤ 100000) (r : ∀ p xs H, H p = some (.lst xs) → xs.length = n → (∀ v ∈ xs, R v H) → R' (.ref p) H) : EvF (tLst ta) σ G R' := fun H1 e Q q => h H1 e _ fun vs H2 e2 l2 h2 =>
  ⟨by rw [sizeLine_eq]; omega, fun p hp => q _ _ (e2.trans (Ex.new hp)) (r p vs _ (nw_of (fresh_back e2 hp) upd_same) l2 fun v hv => m _ _ _ (nw_up (Ex.new hp)) (h2 v hv))⟩
theorem mem_rep {α : Type} {xs : List α} {k : Nat} {v : α} (h : v ∈ (List.replicate k xs).flatten) : v ∈ xs := by
  obtain ⟨ys, h1, h2⟩ := List.mem_flatten.mp h
  rw [(List.mem_replicate.mp h1).2] at h2
  exact h2
theorem ef_rep {ti : TE} {k : Int} {m : Nat} (mo : Mono R) (h : EvF te σ G (fun u H' => ∃ p xs, u = .ref p ∧ H' p = some (.lst xs) ∧ xs.length ≤ m ∧ ∀ v ∈ xs, R v H')) (hi : ∀ H', Ex G H' → Ev ti σ H' (.int k)) (k0 : 0 ≤ k) (k1 : k ≤ 10000) (hm : m ≤ 5)
    (r : ∀ p ys H, H p = some (.lst ys) → ys.length ≤ m * k.toNat → (∀ v ∈ ys, R v H) → R' (.ref p) H) : EvF (tOp rRep te ti) σ G R' := fun H1 e Q q => h H1 e _ fun v H2 e2 hv => by
  obtain ⟨p, xs, rfl, hp, hl, hx⟩ := hv
  refine hi H2 (e.trans e2) H2 (Ex.refl _) _ fun H3 e3 => ⟨p, k, xs, rfl, rfl, e3 _ _ (nw_at hp).2, by omega, by omega, ?_, fun b hb => q _ _ ((e2.trans e3).trans (Ex.new hb)) (r b _ _ (nw_of (fresh_back (e2.trans e3) hb) upd_same) ?_ fun v hv => mo _ _ _ (nw_up (e3.trans (Ex.new hb))) (hx v (mem_rep hv)))⟩
  · rw [sizeLine_eq]
    have : k.toNat ≤ 10000 := by omega
    have := Nat.mul_le_mul (show xs.length ≤ 5 by omega) this
    omega
  · have len : ∀ j : Nat, ((List.replicate j xs).flatten).length = j * xs.length := fun j => by
      induction j with
      | zero => rw [Nat.zero_mul]; rfl
      | succ j ih => rw [List.replicate_succ, List.flatten_cons, List.length_append, ih, Nat.succ_mul, Nat.add_comm]
    rw [len]
    rw [Nat.mul_comm]
    exact Nat.mul_le_mul hl (Nat.le_refl _)
/-- a comprehension whose items are new objects, all unlike -/
theorem go_lcD {wi : TI} {g : TG} {te : TE} {vs : List Nat} {n : Nat} {Y : Nat → Hp → V → Hp → Prop} {s : Nat → L2.St → L2.St} {σ : L2.St} {H : Hp} {o : Nat → HO} (hw : EvI wi σ H n Y) (aim : Aims g n Y s) (hs : ∀ i, wipe (s i (wipe σ vs)) vs = wipe σ vs) (hn : n ≤ 90000)
    (he : ∀ i, i < n → ∀ H1, Ex H H1 → ∀ Q : VK, (∀ p H2, H1 p = none → Ex H1 H2 → H2 p = some (o i) → Q (.ref p) H2) → te (s i (wipe σ vs)) H1 Q) (H1 : Hp) (e : Ex H H1) (Q : VK)
    (q : ∀ (D : Addr) (as : List Addr) (H2 : Hp), H1 D = none → Ex H1 H2 → H2 D = some (.lst (as.map V.ref)) → as.length = n → as.Nodup → (∀ (i : Nat) (a : Addr), as[i]? = some a → H1 a = none ∧ a ≠ D ∧ H2 a = some (o i)) → Q (.ref D) H2) :
    tLc wi g tYes te vs σ H1 Q :=
  hw H1 e _ fun J G H2 e2 w sG D hD => lc_it w (fun i H' => Ex H2 H' ∧ ∃ as : List Addr, H' D = some (.lst (as.map V.ref)) ∧ as.length = i ∧ as.Nodup ∧ (∀ (k : Nat) (a : Addr), as[k]? = some a → H1 a = none ∧ H' a = some (o k) ∧ a ≠ D))
    ⟨Ex.new hD, [], upd_same, rfl, List.nodup_nil, fun i v h => by simp at h⟩ (fun i H' _ p => sG H' ((e.trans e2).trans p.1) fun a o _ ha => p.1 _ _ ha)
    (fun i x A B hi p y => by
      obtain ⟨p1, as, p3, p4, pn, p5⟩ := p
      obtain ⟨ab, k⟩ := aim i (wipe σ vs) A x B hi y
      refine k _ ⟨hs i, ?_⟩
      show te (s i (wipe σ vs)) B _
      refine he i hi B (((e.trans e2).trans p1).trans ab) _ fun p C hp eC hC => ⟨as.map V.ref, eC _ _ (ab _ _ p3), sz_lt (by rw [List.length_map]; omega), ((p1.trans ab).trans eC).mut hD, as ++ [p], ?_, by rw [List.length_append, p4] <;> rfl, ?_, fun j a ha => ?_⟩
      · rw [upd_same, List.map_append]
        rfl
      · rw [List.nodup_append]
        refine ⟨pn, by simp, fun x hx y hy e => ?_⟩
        rw [List.mem_singleton.mp hy] at e
        subst e
        obtain ⟨j, hj⟩ := List.mem_iff_getElem?.mp hx
        rw [ab _ _ (p5 j x hj).2.1] at hp
        cases hp
      · rcases addr_snoc ha with ⟨_, ha⟩ | ⟨rfl, rfl⟩
        · obtain ⟨q1, q2, q3⟩ := p5 j a ha
          exact ⟨q1, by rw [upd_ne q3]; exact eC _ _ (ab _ _ q2), q3⟩
        · have pD : p ≠ D := fun z => by rw [z, ab _ _ p3] at hp; cases hp
          exact ⟨fresh_back ((e2.trans p1).trans ab) hp, by rw [upd_ne pD, p4]; exact hC, pD⟩)
    (fun H' p => by
      obtain ⟨p1, as, p3, p4, pn, p5⟩ := p
      exact q D as H' (fresh_back e2 hD) (e2.trans p1) p3 p4 pn fun i a ha => ⟨(p5 i a ha).1, (p5 i a ha).2.2, (p5 i a ha).2.1⟩)
end
end EnL
end S_Xi
section S_Xj
namespace EnL
open PySem PySem.Spec PyProof.Rows L2 Tl Hk
/-! ### what can be shown -/
structure Sh (c k : Nat) (d : PyData) : Prop where
  ok : d.showable = true
  nd : d.hasDict = false
  deep : d.depth ≤ k
  len : d.shown.length ≤ c
theorem pile_le : ∀ {ts : List Str} {c : Nat}, (∀ t ∈ ts, t.length ≤ c) → piled ts ≤ ts.length * (c + 2)
  | [], c, _ => Nat.zero_le _
  | t :: r, c, h => by
    have h1 := h t List.mem_cons_self
    have h2 := pile_le (ts := r) (c := c) fun u hu => h u (List.mem_cons_of_mem _ hu)
    rw [List.length_cons, Nat.succ_mul]
    show t.length + 2 + piled r ≤ _
    omega
theorem tup_le {ts : List Str} {c : Nat} (h : ∀ t ∈ ts, t.length ≤ c) : (tupleText ts).length ≤ ts.length * (c + 2) + 3 := by
  unfold tupleText
  rw [strLen_append, strLen_append]
  have e1 : (("(" : String) : Str).length = 1 := rfl
  have e2 : (((if ts.length == 1 then ",)" else ")" : String)) : Str).length ≤ 2 := by split <;> decide
  have e3 : (Str.join ", " ts).length ≤ piled ts := by
    cases ts with
    | nil => exact Nat.le_refl _
    | cons t r => have := join_length_add (t :: r) (by simp); omega
  have := pile_le h
  omega
theorem show_all : ∀ {ds : List PyData}, (∀ d ∈ ds, d.showable = true) → PyData.showableAll ds = true
  | [], _ => rfl
  | d :: r, h => by
    show (d.showable && PyData.showableAll r) = true
    rw [h d List.mem_cons_self, show_all fun x hx => h x (List.mem_cons_of_mem _ hx)] <;> rfl
theorem nd_all : ∀ {ds : List PyData}, (∀ d ∈ ds, d.hasDict = false) → PyData.hasDictAll ds = false
  | [], _ => rfl
  | d :: r, h => by
    show (d.hasDict || PyData.hasDictAll r) = false
    rw [h d List.mem_cons_self, nd_all fun x hx => h x (List.mem_cons_of_mem _ hx)] <;> rfl
theorem deepAll : ∀ {ds : List PyData} {k : Nat}, (∀ d ∈ ds, d.depth ≤ k) → PyData.depthAll ds ≤ k
  | [], k, _ => Nat.zero_le _
  | d :: r, k, h => by
    unfold PyData.depthAll
    have h1 := h d List.mem_cons_self
    have h2 := deepAll (ds := r) (k := k) fun x hx => h x (List.mem_cons_of_mem _ hx)
    omega
theorem Sh.le {c k c' k' : Nat} {d : PyData} (h : Sh c k d) (h1 : c ≤ c') (h2 : k ≤ k') : Sh c' k' d := ⟨h.ok, h.nd, Nat.le_trans h.deep h2, Nat.le_trans h.len h1⟩
theorem sh_int {x : Int} (h : x.natAbs ≤ 64) : Sh 66 1 (.int x) := by
  refine ⟨decide_eq_true (Nat.lt_of_le_of_lt (Nat.log2_le_self _) (by omega)), rfl, by unfold PyData.depth; omega, ?_⟩
  have b1 := len_str_of_int x
  show (Str.ofString (toString x)).length ≤ 66
  omega
theorem sh_bl (b : Bool) : Sh 66 1 (.bool b) := by
  refine ⟨rfl, rfl, by unfold PyData.depth; omega, ?_⟩
  cases b <;> decide +kernel
theorem sh_tup {c k m C : Nat} {ds : List PyData} (h : ∀ d ∈ ds, Sh c k d) (hl : ds.length ≤ m) (hC : m * (c + 2) + 3 ≤ C) : Sh C (k + 1) (.tuple ds) := by
  refine ⟨show_all fun d hd => (h d hd).ok, nd_all fun d hd => (h d hd).nd, Nat.succ_le_succ (deepAll fun d hd => (h d hd).deep), ?_⟩
  show (tupleText (PyData.shownAll ds)).length ≤ _
  rw [shownAll_eq]
  have h2 := tup_le (ts := ds.map PyData.shown) (c := c) fun t ht => by
    obtain ⟨d, hd, rfl⟩ := List.mem_map.mp ht
    exact (h d hd).len
  rw [List.length_map] at h2
  have := Nat.mul_le_mul hl (Nat.le_refl (c + 2))
  omega
theorem sh_lst {c k m C : Nat} {ds : List PyData} (h : ∀ d ∈ ds, Sh c k d) (hl : ds.length ≤ m) (hC : m * (c + 2) + 3 ≤ C) : Sh C (k + 1) (.list ds) := by
  refine ⟨show_all fun d hd => (h d hd).ok, nd_all fun d hd => (h d hd).nd, Nat.succ_le_succ (deepAll fun d hd => (h d hd).deep), ?_⟩
  show (listText (PyData.shownAll ds)).length ≤ _
  rw [shownAll_eq]
  have h2 := listText_le (ts := ds.map PyData.shown) (c := c) fun t ht => by
    obtain ⟨d, hd, rfl⟩ := List.mem_map.mp ht
    exact (h d hd).len
  rw [List.length_map] at h2
  have := Nat.mul_le_mul hl (Nat.le_refl (c + 2))
  omega
/-- a row of small ints -/
theorem sh_row {ns : List Int} (h : ns.length ≤ 64) (h2 : ∀ x ∈ ns, x.natAbs ≤ 64) : Sh 4400 2 (.tuple (ns.map PyData.int)) := sh_tup (c := 66) (m := 64) (fun d hd => by
  obtain ⟨x, hx, rfl⟩ := List.mem_map.mp hd
  exact sh_int (h2 x hx)) (by rw [List.length_map]; exact h) (by decide)
theorem sh_rowL {ns : List Int} (h : ns.length ≤ 64) (h2 : ∀ x ∈ ns, x.natAbs ≤ 64) : Sh 4400 2 (.list (ns.map PyData.int)) := sh_lst (c := 66) (m := 64) (fun d hd => by
  obtain ⟨x, hx, rfl⟩ := List.mem_map.mp hd
  exact sh_int (h2 x hx)) (by rw [List.length_map]; exact h) (by decide)
/-! ### a value told as data -/
section
open Evl
variable {K : PySem.W.Frag} {σ : L2.St} {G : Hp} {te : TE} {ta : TA} {d : PyData} {ds : List PyData}
def EvD (K : PySem.W.Frag) (te : TE) (σ : L2.St) (G : Hp) (d : PyData) : Prop := ∀ H1, Ex G H1 → ∀ Q : VK, (∀ v H2, Ex H1 H2 → Dp K H2 v d → Q v H2) → te σ H1 Q
def EvAD (K : PySem.W.Frag) (ta : TA) (σ : L2.St) (G : Hp) (ds : List PyData) : Prop := ∀ H1, Ex G H1 → ∀ Q : List V → Hp → Prop, (∀ vs H2, Ex H1 H2 → DpAll K H2 vs ds → Q vs H2) → ta σ H1 Q
theorem dpAll_len : ∀ {H : Hp} {vs : List V} {ds : List PyData}, DpAll K H vs ds → vs.length = ds.length
  | _, _, _, .nil => rfl
  | _, _, _, .cons _ a => by rw [List.length_cons, List.length_cons, dpAll_len a]
theorem ev_up {v : V} {H : Hp} (h : Ev te σ G v) (e : Ex G H) : Ev te σ H v := fun H1 e1 => h H1 (e.trans e1)
theorem ed_nil : EvAD K tNil σ G [] := fun H1 e Q q => q [] H1 (Ex.refl H1) .nil
theorem ed_cons {tr : TA} (h : EvD K te σ G d) (hr : EvAD K tr σ G ds) : EvAD K (tCons te tr) σ G (d :: ds) := fun H1 e Q q => h H1 e _ fun v H2 e2 hv => hr H2 (e.trans e2) _ fun vs H3 e3 hs => q (v :: vs) H3 (e2.trans e3) (.cons (dp_ex e3 hv) hs)
theorem ed_v {v : V} (h : Ev te σ G v) (hd : Dp K G v d) : EvD K te σ G d := fun H1 e Q q => h H1 e Q fun H2 e2 => q v H2 e2 (dp_ex (e.trans e2) hd)
theorem ed_u {xs : List V} (h : EvU te σ G xs) (hd : DpAll K G xs ds) : EvD K te σ G (.tuple ds) := fun H1 e Q q => h H1 e Q fun p H2 hp e2 h2 => q _ H2 e2 (.tup (st_of h2) (dpa_ex (e.trans e2) hd))
theorem ed_l {xs : List V} (h : EvL te σ G xs) (hd : DpAll K G xs ds) : EvD K te σ G (.list ds) := fun H1 e Q q => h H1 e Q fun p H2 hp e2 h2 => q _ H2 e2 (.lst (sq_of h2) (dpa_ex (e.trans e2) hd))
theorem ed_lst (h : EvAD K ta σ G ds) (hn : ds.length ≤ 100000) : EvD K (tLst ta) σ G (.list ds) := fun H1 e Q q => h H1 e _ fun vs H2 e2 h2 =>
  ⟨by rw [sizeLine_eq, dpAll_len h2]; omega, fun p hp => q _ _ (e2.trans (Ex.new hp)) (.lst (sq_of upd_same) (dpa_ex (Ex.new hp) h2))⟩
theorem ed_tup (h : EvAD K ta σ G ds) (hn : ds.length ≤ 100000) : EvD K (tTup ta) σ G (.tuple ds) := fun H1 e Q q => h H1 e _ fun vs H2 e2 h2 =>
  ⟨by rw [sizeLine_eq, dpAll_len h2]; omega, fun p hp => q _ _ (e2.trans (Ex.new hp)) (.tup (st_of upd_same) (dpa_ex (Ex.new hp) h2))⟩
theorem dpa_ints {H : Hp} : ∀ ns : List Int, DpAll K H (ns.map V.int) (ns.map PyData.int)
  | [] => .nil
  | x :: r => .cons (.int x) (dpa_ints r)
theorem ev_reprV {c k : Nat} (h : EvD K te σ G d) (hr : ∀ v H, Dp K H v d → ∃ a, v = .ref a) (s : Sh c k d) (hc : c ≤ 1000000) (hk : k ≤ 20) : Ev (tCB (rReprX K) (tCons te tNil)) σ G (.str d.shown) := fun H1 e Q q => h H1 e _ fun v H2 e2 hv => by
  obtain ⟨a, rfl⟩ := hr v H2 hv
  exact .inl (.inl ⟨a, d, rfl, hv, s.ok, s.nd, Nat.le_trans s.deep hk, Nat.le_trans s.len (by rw [sizeLine_eq]; omega), q H2 e2⟩)
theorem dp_lst {v : V} {H : Hp} (h : Dp K H v (.list ds)) : ∃ a, v = .ref a := by
  cases h with
  | lst h a => exact ⟨_, rfl⟩
theorem dp_tup {v : V} {H : Hp} (h : Dp K H v (.tuple ds)) : ∃ a, v = .ref a := by
  cases h with
  | tup h a => exact ⟨_, rfl⟩
theorem ev_reprL {c k : Nat} (h : EvD K te σ G (.list ds)) (s : Sh c k (.list ds)) (hc : c ≤ 1000000) (hk : k ≤ 20) : Ev (tCB (rReprX K) (tCons te tNil)) σ G (.str (PyData.list ds).shown) := ev_reprV h (fun _ _ => dp_lst) s hc hk
theorem ev_reprU {c k : Nat} (h : EvD K te σ G (.tuple ds)) (s : Sh c k (.tuple ds)) (hc : c ≤ 1000000) (hk : k ≤ 20) : Ev (tCB (rReprX K) (tCons te tNil)) σ G (.str (PyData.tuple ds).shown) := ev_reprV h (fun _ _ => dp_tup) s hc hk
/-- [x] * 2 -/
theorem ed_two (h : EvD K te σ G d) : EvD K (tOp rRep (tLst (tCons te tNil)) (tC (.int 2))) σ G (.list [d, d]) := fun H1 e Q q => h H1 e _ fun v H2 e2 hv => by
  refine ⟨by show 1 ≤ sizeLine; decide, fun p hp => ⟨p, 2, [v], rfl, rfl, upd_same, by decide, by decide, by show 1 * 2 ≤ _; decide, fun b hb => ?_⟩⟩
  have e3 := (Ex.new (o := .lst [v]) hp).trans (Ex.new (o := .lst [v, v]) hb)
  exact q _ _ (e2.trans e3) (.lst (sq_of upd_same) (.cons (dp_ex e3 hv) (.cons (dp_ex e3 hv) .nil)))
end
end EnL
end S_Xj
section S_Xy
namespace EnL
open PySem PySem.Spec PyProof.Rows L2 Tl Hk
/-! lists and tuples made of what is new -/
section
open Evl
variable {K : PySem.W.Frag} {σ : L2.St} {G : Hp} {te : TE} {R : V → Hp → Prop} {d : PyData} {ds : List PyData}
def EvFL (te : TE) (σ : L2.St) (G : Hp) (L : List V → Hp → Prop) : Prop := ∀ H1, Ex G H1 → ∀ Q : VK, (∀ p xs H2, H1 p = none → Ex H1 H2 → H2 p = some (.lst xs) → L xs (nw H1 H2) → Q (.ref p) H2) → te σ H1 Q
theorem en_of_ef (m : Mono R) (h : EvF te σ G R) : EvN te σ G R := fun H1 e Q q => h H1 e Q fun v H2 e2 hv => q v H2 e2 fun H3 _ s => m _ _ _ (nw_by s) hv
def nwx (G : Hp) (D : Addr) (H : Hp) : Hp := fun a => if a = D then none else nw G H a
theorem nwx_le {G H : Hp} {D : Addr} : Ex (nwx G D H) (nw G H) := fun a o h => by
  unfold nwx at h
  split at h
  · cases h
  · exact h
theorem nwx_up {G H H' : Hp} {D : Addr} (h : ∀ a o, a ≠ D → H a = some o → H' a = some o) : Ex (nwx G D H) (nwx G D H') := fun a o e => by
  unfold nwx at e ⊢
  split at e
  · cases e
  · rename_i hne
    rw [if_neg hne]
    exact nw_of (nw_at e).1 (h a o hne (nw_at e).2)
theorem nwx_of {G B C : Hp} {D : Addr} {u : HO} (e : Ex G B) (hD : B D ≠ none) : Ex (nw B C) (nwx G D (upd C D u)) := fun a o h => by
  obtain ⟨h1, h2⟩ := nw_at h
  have hne : a ≠ D := fun z => hD (z ▸ h1)
  unfold nwx
  rw [if_neg hne]
  exact nw_of (fresh_back e h1) (by rw [upd_ne hne]; exact h2)
/-- a comprehension told by what is new -/
theorem ef_lc {wi : TI} {g : TG} {te : TE} {vs : List Nat} {n : Nat} {Y : Nat → Hp → V → Hp → Prop} {s : Nat → L2.St → L2.St} (hw : EvI wi σ G n Y) (aim : Aims g n Y s) (hs : ∀ i, wipe (s i (wipe σ vs)) vs = wipe σ vs) (hn : n ≤ 90000)
    (R : Nat → V → Hp → Prop) (mo : ∀ i, Mono (R i)) (he : ∀ i, i < n → EvF te (s i (wipe σ vs)) G (R i)) : EvFL (tLc wi g tYes te vs) σ G (fun xs H => xs.length = n ∧ ∀ (i : Nat) v, xs[i]? = some v → R i v H) := fun H1 e Q q =>
  hw H1 e _ fun J F H2 e2 w sG D hD => lc_it w (fun i H' => Ex H2 H' ∧ ∃ acc, H' D = some (.lst acc) ∧ acc.length = i ∧ ∀ (k : Nat) (v : V), acc[k]? = some v → R k v (nwx H1 D H'))
    ⟨Ex.new hD, [], upd_same, rfl, fun k v h => by simp at h⟩ (fun i H' _ p => sG H' ((e.trans e2).trans p.1) fun a o _ ha => p.1 _ _ ha)
    (fun i x A B hi p y => by
      obtain ⟨p1, acc, p3, p4, p5⟩ := p
      obtain ⟨ab, k⟩ := aim i (wipe σ vs) A x B hi y
      refine k _ ⟨hs i, ?_⟩
      show te (s i (wipe σ vs)) B _
      have hHB : Ex H1 B := (e2.trans p1).trans ab
      refine he i hi B (e.trans hHB) _ fun v C eC hv => ⟨acc, eC _ _ (ab _ _ p3), sz_lt (by omega), ((p1.trans ab).trans eC).mut hD, acc ++ [v], upd_same, by rw [List.length_append, p4] <;> rfl, fun j u hu => ?_⟩
      have hBD : B D ≠ none := by rw [ab _ _ p3]; intro z; cases z
      rcases Nat.lt_or_ge j acc.length with hj | hj
      · rw [List.getElem?_append_left hj] at hu
        exact mo _ _ _ _ (nwx_up fun a o hne h => by rw [upd_ne hne]; exact eC _ _ (ab _ _ h)) (p5 j u hu)
      · rw [List.getElem?_append_right hj] at hu
        have e0 : j - acc.length = 0 := by
          have := (List.getElem?_eq_some_iff.mp hu).1
          simp at this
          omega
        rw [e0] at hu
        cases hu
        obtain rfl : j = i := by omega
        exact mo _ _ _ _ (nwx_of hHB hBD) hv)
    (fun H' p => by
      obtain ⟨p1, acc, p3, p4, p5⟩ := p
      exact q D acc H' (fresh_back e2 hD) (e2.trans p1) p3 ⟨p4, fun k v h => mo _ _ _ _ nwx_le (p5 k v h)⟩)
/-- data told by what is new -/
def DpN (K : PySem.W.Frag) (d : PyData) : V → Hp → Prop := fun v H => Dp K H v d
theorem dpn_mono (d : PyData) : Mono (DpN K d) := fun _ _ _ e h => dp_ex e h
theorem dpa_of : ∀ {vs : List V} {ds : List PyData} {H : Hp}, vs.length = ds.length → (∀ (i : Nat) v, vs[i]? = some v → Dp K H v (ds.getD i .none)) → DpAll K H vs ds
  | [], [], _, _, _ => .nil
  | v :: vs, d :: ds, _, hl, h => .cons (h 0 v rfl) (dpa_of (Nat.succ.inj hl) fun i u hu => h (i + 1) u hu)
  | [], _ :: _, _, hl, _ => by cases hl
  | _ :: _, [], _, hl, _ => by cases hl
/-- tuple(a comprehension) as data -/
theorem ef_tupL {ta : TE} {L : List V → Hp → Prop} (mL : ∀ xs H H', Ex H H' → L xs H → L xs H') (h : EvFL ta σ G L) {R : V → Hp → Prop} (r : ∀ t xs H, H t = some (.tup xs) → L xs H → R (.ref t) H) : EvF (tCB (fun xs H Q => ∃ p ys, xs = [V.ref p] ∧ ((SqL K H p ys ∧ ∀ l, H l = none → Q (V.ref l) (upd H l (HO.tup ys))) ∨ (SqT K H p ys ∧ Q (V.ref p) H))) (tCons ta tNil)) σ G R := fun H1 e Q q =>
  h H1 e _ fun p xs H2 hp e2 h2 hL => ⟨p, xs, rfl, .inl ⟨sq_of h2, fun t ht => q _ _ (e2.trans (Ex.new ht)) (r t xs _ (nw_of (fresh_back e2 ht) upd_same) (mL _ _ _ (nw_up (Ex.new ht)) hL))⟩⟩
end
end EnL
end S_Xy
section S_Xz
namespace EnL
open PySem PySem.Spec PyProof.Rows L2 Tl Hk
/-! data, its lists told as tuples -/
mutual
def fixD : PyData → PyData
  | .list ds => .tuple (fixDs ds)
  | .tuple ds => .tuple (fixDs ds)
  | .none => .none
  | .bool b => .bool b
  | .int i => .int i
  | .str s => .str s
  | .dict kvs => .dict kvs
def fixDs : List PyData → List PyData
  | [] => []
  | d :: ds => fixD d :: fixDs ds
end
theorem fixDs_map : ∀ ds : List PyData, fixDs ds = ds.map fixD
  | [] => rfl
  | d :: ds => by rw [fixDs, fixDs_map ds]; rfl
def flatD : PyData → Bool
  | .list _ => false
  | .tuple _ => false
  | .dict _ => false
  | _ => true
/-- data whose lists are short, nested at most so deep -/
def Fixable : Nat → PyData → Prop
  | 0, d => flatD d = true
  | n + 1, d => flatD d = true ∨ ∃ ds, (d = .list ds ∨ d = .tuple ds) ∧ ds.length ≤ 4000 ∧ ∀ e ∈ ds, Fixable n e
theorem fixable_up : ∀ {n : Nat} {d : PyData}, Fixable n d → Fixable (n + 1) d
  | 0, _, h => .inl h
  | n + 1, _, h => h.elim .inl fun ⟨ds, h1, h2, h3⟩ => .inr ⟨ds, h1, h2, fun e he => fixable_up (h3 e he)⟩
theorem fixable_le {n m : Nat} {d : PyData} (h : Fixable n d) (l : n ≤ m) : Fixable m d := by
  induction l with
  | refl => exact h
  | step _ ih => exact fixable_up ih
theorem fix_flat {d : PyData} (h : flatD d = true) : fixD d = d := by
  cases d with
  | list _ => cases h
  | tuple _ => cases h
  | dict _ => cases h
  | none => unfold fixD; rfl
  | bool b => unfold fixD; rfl
  | int i => unfold fixD; rfl
  | str s => unfold fixD; rfl
theorem dp_flat {K : PySem.W.Frag} {H H' : Hp} {v : V} {d : PyData} (h : Dp K H v d) (f : flatD d = true) : Dp K H' v d := by
  cases h with
  | non => exact .non
  | bl b => exact .bl b
  | int i => exact .int i
  | str x => exact .str x
  | lst _ _ => cases f
  | tup _ _ => cases f
mutual
theorem dp_by {K : PySem.W.Frag} {H H' : Hp} (eL : ∀ a xs, SqL K H a xs → SqL K H' a xs) (eT : ∀ a xs, SqT K H a xs → SqT K H' a xs) : ∀ {v : V} {d : PyData}, Dp K H v d → Dp K H' v d
  | _, _, .non => .non
  | _, _, .bl b => .bl b
  | _, _, .int i => .int i
  | _, _, .str x => .str x
  | _, _, .lst h a => .lst (eL _ _ h) (dpa_by eL eT a)
  | _, _, .tup h a => .tup (eT _ _ h) (dpa_by eL eT a)
theorem dpa_by {K : PySem.W.Frag} {H H' : Hp} (eL : ∀ a xs, SqL K H a xs → SqL K H' a xs) (eT : ∀ a xs, SqT K H a xs → SqT K H' a xs) : ∀ {vs : List V} {ds : List PyData}, DpAll K H vs ds → DpAll K H' vs ds
  | _, _, .nil => .nil
  | _, _, .cons h a => .cons (dp_by eL eT h) (dpa_by eL eT a)
end
/-- all stands but the instance at x -/
def But (x : Addr) (H H' : Hp) : Prop := ∀ b o, b ≠ x → H b = some o → H' b = some o
theorem rd_but {x C dx a : Addr} {fs : List (Str × V)} {H H' : Hp} {u : HO} (e : But x H H') (hx : H x = some (.ins C dx fs)) (hu : u ≠ .ins C dx fs) (h : Rd H a u) : Rd H' a u := by
  rcases h with h | ⟨o, h⟩
  · exact .inl (e _ _ (fun z => by rw [z, hx] at h; exact hu (Option.some.inj h).symm) h)
  · exact .inr ⟨o, e _ _ (fun z => by rw [z, hx] at h; cases h) h⟩
theorem sqL_but {K : PySem.W.Frag} {x C dx : Addr} {fs : List (Str × V)} {H H' : Hp} (e : But x H H') (hx : H x = some (.ins C dx fs)) (a : Addr) (xs : List V) (h : SqL K H a xs) : SqL K H' a xs := h.elim (fun h => .inl (rd_but e hx (fun z => nomatch z) h)) .inr
theorem sqT_but {K : PySem.W.Frag} {x C dx : Addr} {fs : List (Str × V)} {H H' : Hp} (e : But x H H') (hx : H x = some (.ins C dx fs)) (a : Addr) (xs : List V) (h : SqT K H a xs) : SqT K H' a xs := h.elim (fun h => .inl (rd_but e hx (fun z => nomatch z) h)) .inr
theorem dp_but {K : PySem.W.Frag} {x C dx : Addr} {fs : List (Str × V)} {H H' : Hp} (e : But x H H') (hx : H x = some (.ins C dx fs)) {v : V} {d : PyData} (h : Dp K H v d) : Dp K H' v d := dp_by (sqL_but e hx) (sqT_but e hx) h
theorem dpa_but {K : PySem.W.Frag} {x C dx : Addr} {fs : List (Str × V)} {H H' : Hp} (e : But x H H') (hx : H x = some (.ins C dx fs)) {vs : List V} {ds : List PyData} (h : DpAll K H vs ds) : DpAll K H' vs ds := dpa_by (sqL_but e hx) (sqT_but e hx) h
end EnL
end S_Xz
section S_Sv
namespace Tl
open PySem PySem.Spec PyProof.Rows L2
section
variable {prog : Program} {w : World} {M : Model} {A : Around} {E : Value → Shared → Prop} {h : Heap} {g : Array GenState} {d : Drawn} {t : Nat} {os : OsState}
/-- super().name: what stands behind it, bound -/
theorem getAttr_super {so D x C f : Addr} {of : Obj} {l₀ l : List Value} {K : PySem.W.Frag} {name : Str} {Q : Value → Shared → Prop}
    (hso : h.get? so = some { cls := .type "super", dict := none, data := .fields #[.ref D, .ref x, .ref C], slots := #[] }) (hno : PySem.W.Looks (model prog w) h (opaqueClassAbove (.ref C)) none)
    (hC : PySem.W.Looks (model prog w) h (mroOf (.ref C)) l₀) (hl : (l₀.dropWhile (· != .ref D)).drop 1 = l) (X : K.In h)
    (hf : PySem.W.alongIn K name l = some (some (.ref f))) (hfo : h.get? f = some of) (hfc : of.cls = .type "function") (hxC : x ≠ C) (hn : (name == ("__class__" : Str)) = false)
    (hq : Q (.ref h.objs.size) ⟨h.push { cls := .type "method", data := .fields #[.ref f, .ref x] }, g, d, t + 1, os⟩) :
    wpAny (model prog w) A (getAttr (.ref so) name true) Q E ⟨h, g, d, t, os⟩ := by
  have hlk := F.ks_slot_super_ga.lookup
  have hT : ∀ t', (⟨h, g, d, t', os⟩ : Shared).TypeIs (.ref so) "super" := fun _ => ⟨_, hso, rfl⟩
  unfold getAttr getAttrBy
  refine wpAny_bind (wpAny_mkText (wpAny_holding (wpAny_bind (wpAny_typeOf (hT _) (wpAny_bind (wpAny_of_eq hlk ?_))))))
  show wpAny _ _ (getAttrByItsOwn (.ref so) (.str name t) (.type "super") (.builtin "super.__getattribute__") true true) _ _ _
  unfold getAttrByItsOwn hookBefore callGetattribute boundAndCalled
  refine wpAny_bind (wpAny_of_eq (show (if onTheHeap (.type "super") then typeLookup (.type "super") "__getattr__" else pure none) = pure none from rfl) ?_)
  refine wpAny_bind (wpAny_attempt (wpAny_holding ?_))
  show wpAny _ _ (bindSpecial (.builtin "super.__getattribute__") (.ref so) >>= _) _ _ _
  refine wpAny_bind (wpAny_of_eq (F.ks_slot_super_ga.bind _) ?_)
  refine wpAny_mono (Q := fun v s' => v = .ref h.objs.size ∧ s' = ⟨h.push { cls := .type "method", data := .fields #[.ref f, .ref x] }, g, d, t + 1, os⟩) (E := fun _ _ => False)
    (wpAny_call_entry F.ks_slot_super_ga (hT _) F.ks_entry_super_ga (ks_wpAny_super_ga hso hno hC hl X hf hfo hfc hxC hn ⟨_, rfl, rfl, rfl⟩) (F.ks_gaArgs_super _ _)) (fun v s' hv => ?_) fun _ _ z => z.elim
  obtain ⟨rfl, rfl⟩ := hv
  exact wpAny_pure hq
end
section
variable {M : Model} {A : Around} {E : Value → Shared → Prop} {s : Shared} {env : Env}
theorem starcall_at {c : Code} {o e1 e2 : Expr} {m : Str} {p apos pos : Pos} {Q : Value → Shared → Prop}
    (hst : starEach [e1, .Starred e2 p] env = [(false, eval e1 env), (true, eval e2 env)]) (hpos : methodCallPos false o env apos pos = pure pos)
    (h : PySem.wpAt M A c (attributeBase o m env (eval o env)) (fun ov s₁ => wpAny M A (getAttr ov m true) (fun f s₂ => wpAny M A (callWith pos f [] (backTo pos [(false, eval e1 env), (true, eval e2 env)]) []) Q E s₂) E s₁) E s) :
    PySem.wpAt M A c (eval (.Call (.Attribute o m apos) [e1, .Starred e2 p] [] pos) env) Q E s := by
  have hke : backToKw pos (keywordEach [] env) = [] := rfl
  have hform : methodCallForm ([e1, Expr.Starred e2 p].length + ([] : List Keyword).length) (backTo pos [(false, eval e1 env), (true, eval e2 env)]) [] = false := rfl
  have hcal : ∀ ov, calleeOf false o env ov m = (getAttr ov m true >>= fun v => pure (v, [])) := fun _ => rfl
  rw [arm_eval_Call, hst, hke]
  refine PySem.wpAt_bind (ks_wpAt_mono h (fun ov s₁ h₁ => wpAt_of_wpAny ?_) fun _ _ x => x)
  refine wpAny_bind (wpAny_standAt ?_)
  unfold methodCall
  rw [hform, hpos, hcal]
  refine wpAny_bind (wpAny_holding (wpAny_bind (wpAny_mono h₁ (fun f s₂ h₂ => wpAny_pure ?_) fun _ _ x => x)))
  exact wpAny_bind (wpAny_pure h₂)
end
section
variable {P : Program} {w : World} {K : PySem.W.Frag} {mg : Str → Option Value} {base : Heap}
/-- a def(self, .., *v) whose body begins with super().__init__(e, *y) -/
theorem fn_superS {f f2 D C cc cda : Addr} {name qual pv : Str} {params : Arguments} {scope : Scope} {dV kV doc pm ct : Value} {an : Option Addr} {N ps : List Str} {self : Str} {k : Nat} {sp sp2 : Sp} {e1 e2 : Expr} {rest : List Stmt} {p0 p1 p2 apos pos spos : Pos}
    (B : SuFacts P K f f2 D C cc cda (PySem.W.ksFn name qual params (.Expr (.Call (.Attribute (.Call (.Name "super" p0) [] [] p1) "__init__" apos) [e1, .Starred e2 p2] [] pos) spos :: rest) scope dV kV doc pm an (.ref cda) ct cc) self)
    (hcd : PySem.W.codeIn K (.ref cda) qual = true) (S : SuScope N (ps ++ [pv]) scope) (h0 : ps[0]? = some self) (ms : mg "super" = none)
    (F2 : FnR P w K mg base CX0 k f2 sp2)
    (hb : ∀ us rest' : List Value, us.length = ps.length → bindArgs (PySem.W.ksFn name qual params (.Expr (.Call (.Attribute (.Call (.Name "super" p0) [] [] p1) "__init__" apos) [e1, .Starred e2 p2] [] pos) spos :: rest) scope dV kV doc pm an (.ref cda) ct cc) ⟨us ++ rest', []⟩ = (newTuple rest' >>= fun t => pure (ps.zip us ++ [(pv, t)])))
    (hbody : ∀ (A : Around) (outer : List Env) (s : Shared) (H : Hp) (vs : List V) (Q : VK) (E : XK), Room k (A.deeper (PySem.W.ksEnv qual scope s.heap.objs.size f (.ref cda) cc)) → sp vs H Q E →
      ∃ t1 t2 t x dx fs, PE (suCx P w K mg base N qual scope f (.ref cda) cc A outer s H E) e1 t1 ∧ PE (suCx P w K mg base N qual scope f (.ref cda) cc A outer s H E) e2 t2 ∧ PSs (suCx P w K mg base N qual scope f (.ref cda) cc A outer s H E) rest t ∧ vs[0]? = some (.ref x) ∧ H x = some (.ins C dx fs) ∧
        ∀ q, H q = none → t1 (L2.start N vs) (upd H q (.met f2 x)) fun y1 H1 => t2 (L2.start N vs) H1 fun y2 H2 => ∃ b us, y2 = .ref b ∧ (SqT K H2 b us ∨ SqL K H2 b us) ∧ H2 q = some (.met f2 x) ∧ sp2 (.ref x :: y1 :: us) H2 (fun _ H3 => t { nx := fun _ H' => Q .non H', rt := Q } (L2.start N vs) H3) E0)
    (hsw : ∀ env : Env, swapsWith (.Call (.Attribute (.Call (.Name "super" p0) [] [] p1) "__init__" apos) [e1, .Starred e2 p2] [] pos) none spos.line env = pure false)
    (hst : ∀ env : Env, starEach [e1, .Starred e2 p2] env = [(false, eval e1 env), (true, eval e2 env)]) (hpos : ∀ env : Env, methodCallPos false (.Call (.Name "super" p0) [] [] p1) env apos pos = pure pos) :
    FnR P w K mg base CX0 (k + 1) f (fun vs H Q E => ∃ ws rest', vs = ws ++ rest' ∧ ws.length = ps.length ∧ rest'.length ≤ sizeLine ∧ ∀ p, H p = none → sp (ws ++ [V.ref p]) (upd H p (.tup rest')) Q E) := by
  obtain ⟨⟨oc, od, osl, lk⟩, ⟨ar, har, hself⟩, ⟨ccl, cdd, cvs, ccs, file, tf, lkc, hvs, hfile⟩, ⟨cl, cld, csl, lkcell⟩, ⟨cdD, hclsD⟩, hsub, hopq, habove, hty, hfi, htop, hnotC⟩ := B
  intro A outer s H us vs Q E hr e0 r hsp
  obtain ⟨ws, rest', ev, hl, hz, hsp⟩ := hsp
  subst ev
  obtain ⟨u1, u2, eu, r1, r2⟩ := StX.vals_split r
  subst eu
  have hn : H s.heap.objs.size = none := e0.hok.fresh (Nat.le_refl _)
  have hl1 : u1.length = ps.length := by rw [← r1.length]; exact hl
  have hl2 : u2.length ≤ sizeLine := by rw [← r2.length]; exact hz
  have kin0 : K.In s.heap := e0.mod.kin.keeps fun b o e => (e0.bs b o e).1
  have new : ObjOk P w (upd H s.heap.objs.size (.tup rest')) (s.heap.push ({ cls := .type "tuple", data := .seq u2.toArray } : Obj)) s.heap.objs.size (.tup rest') := ⟨hz, u2, r2, ⟨_, Heap.get?_push_size _ rfl, rfl, _, rfl⟩⟩
  have un := StX.un_laid (fs := frs outer) (s := s) (o := ({ cls := .type "tuple", data := .seq u2.toArray } : Obj)) (u := .tup rest') hn
  have e1' := StX.env0_laid e0 new
  have hsp2 := hsp _ hn
  have rv : Vals (ws ++ [V.ref s.heap.objs.size]) (u1 ++ [Value.ref s.heap.objs.size]) := r1.append (.cons rfl .nil)
  have hlv : (ws ++ [V.ref s.heap.objs.size]).length = (ps ++ [pv]).length := by rw [List.length_append, List.length_append, hl] <;> rfl
  have hzip : ps.zip u1 ++ [(pv, Value.ref s.heap.objs.size)] = (ps ++ [pv]).zip (u1 ++ [Value.ref s.heap.objs.size]) := by rw [List.zip_append hl1.symm] <;> rfl
  have hup : ∀ e s', (CX0 : CXT) outer (upd H s.heap.objs.size (.tup rest')) { s with heap := s.heap.push ({ cls := .type "tuple", data := .seq u2.toArray } : Obj) } E e s' → (CX0 : CXT) outer H s E e s' := fun e s' z => z
  refine codeAny_call_function hr.depth (kin0 _ _ lk) rfl S.co S.gen rfl (PySem.W.codeRec_of kin0 hcd) ?_
  rw [hb u1 u2 hl1]
  refine wpAny_bind (wpAny_newTuple (wpAny_pure ?_) hl2)
  have lim : (s.heap.push ({ cls := .type "tuple", data := .seq u2.toArray } : Obj)).NoLimit := e0.mod.nolimit.keeps fun b o e => (e1'.bs b o e).1
  rw [hzip]
  generalize hs1 : ({ s with heap := s.heap.push ({ cls := .type "tuple", data := .seq u2.toArray } : Obj) } : Shared) = s1 at e1' un ⊢
  have lim1 : s1.heap.NoLimit := by rw [← hs1]; exact lim
  have os1 : s1.os = s.os := by rw [← hs1]
  have un1 : Un (frs outer) [] H (upd H s.heap.objs.size (.tup rest')) s.heap s1.heap := by rw [← hs1]; exact un
  generalize hwv : ws ++ [V.ref s.heap.objs.size] = vs at hsp2 rv hlv
  generalize hH : upd H s.heap.objs.size (.tup rest') = H1 at hsp2 e1' un1
  clear new un hup
  refine wpAny_newFunctionEnv (fun y hy => S.nocell y hy) (fun y hy => S.par y.1 (List.of_mem_zip (a := y.1) (b := y.2) hy).1) (fun h₁ hns hsb => ⟨lim1.fresh _ hsb, ks_codeAny_funcAt ?_⟩) S.kind
  have kp : ∀ b o, s1.heap.get? b = some o → h₁.get? b = some o := fun b o e => hsb.extBut b o (Nat.ne_of_lt (Heap.lt_size e)) (Heap.get?_push_of_some _ e)
  obtain ⟨t1, t2, t, x, dx, fs, ha1, ha2, ht, hx0, hx, hq⟩ := hbody A outer s1 H1 vs Q E (hr.deeper _) hsp2
  have I := su_start S lkcell hr.hd e1' hlv rv hns kp (tk := s1.toks + ((ps ++ [pv]).zip (u1 ++ [Value.ref s.heap.objs.size])).length) (qual := qual) (f := f) (cd := .ref cda) (E := E)
  have kin1 : K.In h₁ := I.kIn
  obtain ⟨oD, hD1, hD2⟩ : ∃ oD, h₁.get? D = some oD ∧ oD.data = .cls cdD := by
    unfold PySem.W.clsIn at hclsD
    split at hclsD
    · rename_i ho
      cases hclsD
      exact ⟨_, kin1 _ _ ho, rfl⟩
    · cases hclsD
  obtain ⟨mA, O, _⟩ := ins_get I.hok hx
  obtain ⟨u0, hu0, ru0⟩ := rv.get hx0
  cases (show u0 = Value.ref x from ru0)
  have h0' : (ps ++ [pv])[0]? = some self := by
    rw [List.getElem?_append_left (List.getElem?_eq_some_iff.mp h0).1]
    exact h0
  have hsv : ((ps ++ [pv]).zip (u1 ++ [Value.ref s.heap.objs.size])).reverse.lookup ar.arg = some (.ref x) := by
    rw [hself]
    refine lookup_rev ?_ h0' hu0
    rw [← S.pre]
    exact S.nd.sublist (List.take_sublist _ _)
  have hsl : scope.names.lookup ar.arg = some .local := by
    rw [hself]
    exact S.par _ (List.mem_of_getElem? h0')
  have hxC : x ≠ C := by
    intro e
    cases hcl : PySem.W.clsIn K C with
    | none => exact hnotC hcl
    | some cdC =>
      unfold PySem.W.clsIn at hcl
      split at hcl
      · rename_i ho
        have e2 := kin1 _ _ ho
        rw [← e, O.obj] at e2
        cases e2
      · cases hcl
  obtain ⟨mb, hnb, hbb⟩ := I.ok.mod.blt
  refine ks_wpAt_execs_cons (ks_wpAt_Expr_any (starcall_at (hst _) (hpos _) (ks_wpAt_super_base (env := PySem.W.ksEnv qual scope s1.heap.objs.size f (.ref cda) cc) S.sup S.cls (by decide) rfl (kin1 _ _ lk) rfl har rfl (kin1 _ _ lkc) rfl hvs hfile htop ?_)) I.quiet (hsw _))
  refine PySem.W.ks_loadName_global S.kind S.sup (PySem.Calls.loadGlobal_builtin (env := PySem.W.ksEnv qual scope s1.heap.objs.size f (.ref cda) cc) (I.ok.mod.glob.keeps I.bk) ms (hnb.keeps I.bk) ((hbb _ (by decide +kernel)).trans (by decide +kernel)) ⟨rfl, ?_⟩)
  refine wpAny_loadName_free S.kind S.cls rfl ⟨_, kin1 _ _ lkcell, rfl⟩ ?_
  refine wpAny_loadName_local S.kind hsl hns hsv ?_
  refine ks_wpAny_isType_cls hD1 hD2 ⟨rfl, ?_⟩
  refine ks_wpAny_call_super hD1 hD2 O.obj rfl (fun c e => by cases e) (PySem.W.looks_mroIn kin1 hsub) (fun h2 e2 k2 => ?_)
  have I2 := I.kept (t' := s1.toks + ((ps ++ [pv]).zip (u1 ++ [Value.ref s.heap.objs.size])).length) k2
  have kin2 : K.In h2 := I2.kIn
  obtain ⟨of, hof, hofc⟩ : ∃ of, h2.get? f2 = some of ∧ of.cls = .type "function" := by
    have ht' : (K.lookup f2).map (·.cls) = some (.type "function") := hty
    cases z : K.lookup f2 with
    | none => rw [z] at ht'; cases ht'
    | some of => rw [z] at ht'; exact ⟨of, kin2 _ _ z, Option.some.inj ht'⟩
  cases hcl : PySem.W.clsIn K C with
  | none => exact absurd hcl hnotC
  | some cdC =>
    unfold PySem.W.ks_superIn at habove
    rw [hcl] at habove
    refine getAttr_super e2 (PySem.W.looks_opaque kin2 hopq) (l₀ := cdC.mro) (fun A Q E s k q => wpAny_bind ((PySem.W.looks_clsIn kin2 hcl) A _ E s k (wpAny_pure q))) rfl kin2 habove hof hofc hxC (by decide) ?_
    have hfree : H1 h2.objs.size = none := I2.hok.fresh (Nat.le_refl _)
    have I3 := I2.laid (a := h2.objs.size) (o := .met f2 x) (h' := h2.push { cls := .type "method", data := .fields #[.ref f2, .ref x] }) (t' := s1.toks + ((ps ++ [pv]).zip (u1 ++ [Value.ref s.heap.objs.size])).length + 1) (fun b u e => Heap.get?_push_of_some _ e) (Nat.le_refl _) (Heap.get?_push_size _ rfl)
    have hx3 := hq _ hfree
    have hr4 : Room k (suCx P w K mg base N qual scope f (.ref cda) cc A outer s1 H1 E).A := hr.deeper _
    refine PySem.W.ks_call (P := PySem.W.MethP K h2.objs.size f2 (.ref x)) rfl (PySem.W.keeps_M hfi) (Calls.evalArgs_plain (Calls.spliced_cons (wpAny_mono (ha1.run [] _ (L2.start N vs) _ _ I3 hx3) (fun v1 s3 h3 => ?_) fun _ _ z => z.elim)))
    obtain ⟨y1, H2, I4, ry1, q2⟩ := h3
    refine PySem.W.ks_spliced (wpAny_mono (ha2.run [] s3 (L2.start N vs) H2 _ I4 q2) (fun v2 s4 h4 => ?_) fun _ _ z => z.elim)
    obtain ⟨y2, H3, I5, ry2, b, us5, ey, ht5, hm5, hsp5⟩ := h4
    subst ey
    obtain rfl : v2 = Value.ref b := ry2
    refine StX.star_any I5 ht5 fun us s5 I6 rv5 => Calls.spliced_nil ?_
    show PySem.W.MethP K h2.objs.size f2 (.ref x) s5.heap ∧ wpAny (model P w) _ (call (.ref h2.objs.size) (v1 :: (us ++ [])) []) _ _ s5
    rw [List.append_nil]
    refine ⟨met_P I6 hm5, wpAny_call (PySem.W.method_call (met_P I6 hm5).1 (codeAny_mono (run_fnR (X := suCx P w K mg base N qual scope f (.ref cda) cc A outer s1 H1 E) (vs := V.ref x :: y1 :: us5) (us := Value.ref x :: v1 :: us) F2 hr4 pass0 I6 (.cons rfl (.cons ry1 rv5)) hsp5) fun r5 s6 h6 => ?_))⟩
    match r5, h6 with
    | .ok (.ret u), h6 =>
      obtain ⟨v5, H5, I7, _, q5⟩ := h6
      refine wpAt_of_wpAny (wpAny_mono (ht.run [] s6 _ H5 _ I7 q5) (fun fl s' hs => ?_) fun _ _ z => z.elim)
      cases fl with
      | ret u =>
        obtain ⟨v, σ', H', J, rv, q⟩ := hs
        exact ⟨v, H', J.os.trans os1, J.bare, un1.trans J.base, J.hok, rv, q⟩
      | next =>
        obtain ⟨σ', H', J, q⟩ := hs
        exact ⟨.non, H', J.os.trans os1, J.bare, un1.trans J.base, J.hok, rfl, q⟩
      | brk => exact hs.elim fun _ h => h.elim fun _ h => h.2.elim
      | cont => exact hs.elim fun _ h => h.elim fun _ h => h.2.elim
    | .error e, h6 => exact False.elim h6
    | .ok .next, h6 => exact False.elim h6
    | .ok .brk, h6 => exact False.elim h6
    | .ok .cont, h6 => exact False.elim h6
end
end Tl
end S_Sv
section S_Tp
namespace P51
open PySem PySem.Spec PyProof.Rows L2 Tl Hk EnL
abbrev sPaperI : Stmt := inClass sPaperC 0
abbrev sPaperB : Stmt := inClass sPaperC 2
abbrev sDenialI : Stmt := inClass sDenialC 0
abbrev sDenialB : Stmt := inClass sDenialC 2
abbrev sCalmI : Stmt := inClass sCalmC 0
abbrev sStrayI : Stmt := inClass sStrayC 0
theorem scFixed : FnScope ["value", "item"] ["value"] (defScope sFixed) := ⟨rfl, rfl, rfl, by decide +kernel, rfl, by decide +kernel, by decide +kernel⟩
theorem scPaperI : FnScope ["self", "word", "parts"] ["self", "word", "parts"] (defScope sPaperI) := ⟨rfl, rfl, rfl, by decide +kernel, rfl, by decide +kernel, by decide +kernel⟩
theorem scDenialI : SuScope ["self", "word", "parts"] ["self", "word", "parts"] (defScope sDenialI) := ⟨rfl, rfl, rfl, by decide +kernel, rfl, by decide +kernel, by decide +kernel, by decide +kernel, by decide +kernel, by decide +kernel⟩
theorem scCalmI : SuScope ["self"] ["self"] (defScope sCalmI) := ⟨rfl, rfl, rfl, by decide +kernel, rfl, by decide +kernel, by decide +kernel, by decide +kernel, by decide +kernel, by decide +kernel⟩
theorem scStrayI : SuScope ["self", "walk"] ["self", "walk"] (defScope sStrayI) := ⟨rfl, rfl, rfl, by decide +kernel, rfl, by decide +kernel, by decide +kernel, by decide +kernel, by decide +kernel, by decide +kernel⟩
theorem scPaperB : FnScope ["self"] ["self"] (defScope sPaperB) := ⟨rfl, rfl, rfl, by decide +kernel, rfl, by decide +kernel, by decide +kernel⟩
theorem scDenialB : FnScope ["self"] ["self"] (defScope sDenialB) := ⟨rfl, rfl, rfl, by decide +kernel, rfl, by decide +kernel, by decide +kernel⟩
def tyD : PyData → String
  | .none => "NoneType"
  | .bool _ => "bool"
  | .int _ => "int"
  | .str _ => "str"
  | .list _ => "list"
  | .tuple _ => "tuple"
  | .dict _ => "dict"
theorem ty_dp {K : PySem.W.Frag} {H : Hp} {v : V} {d : PyData} (h : Dp K H v d) : Ty7 K H v (tyD d) := by
  cases h with
  | non => exact .non
  | bl b => exact .bl b
  | int i => exact .int i
  | str x => exact .str x
  | lst h _ => exact .lst h
  | tup h _ => exact .tup h
def spFix (K : PySem.W.Frag) (n : Nat) : Sp := fun vs H Q _ => ∃ (v : V) (d : PyData), vs = [v] ∧ Dp K H v d ∧ Fixable n d ∧ ∀ u H1, Evl.Ex H H1 → Dp K (nw H H1) u (fixD d) → Q u H1
theorem dpa_at {K : PySem.W.Frag} {H : Hp} : ∀ {xs : List V} {ds : List PyData} {i : Nat} {u : V}, DpAll K H xs ds → xs[i]? = some u → Dp K H u (ds.getD i .none)
  | _, _, 0, _, .cons h _, e => by cases e; exact h
  | _, _, i + 1, _, .cons _ t, e => dpa_at (i := i) t e
theorem ef_call {K : PySem.W.Frag} {sp : Sp} {E : XK} {ta : TA} {σ : L2.St} {G : Hp} {vs : List V} {R : V → Hp → Prop} (h : Evl.EvA ta σ G vs) (mo : Mono R) (hs : ∀ H1, Evl.Ex G H1 → ∀ Q : VK, (∀ v H2, Evl.Ex H1 H2 → R v (nw H1 H2) → Q v H2) → sp (vs ++ []) H1 Q E) : EvF (tCall sp [] E ta) σ G R := fun H1 e Q q =>
  h H1 e _ fun H2 e2 => hs H2 (e.trans e2) Q fun v H3 e3 hv => q v H3 (e2.trans e3) (mo _ _ _ (nw_back e2) hv)
section
variable {P : Program} {w : World} {K : PySem.W.Frag} {mg : Str → Option Value} {base : Heap}
theorem ok_fix {f fL : Addr} {fd fdL : FuncData} {k : Nat} (F : Fun K "fixed" "fixed" sFixed f fd) (gF : mg "fixed" = some (.ref f)) (bF : Binds K fd ["value"] [])
    (FL : Fun K "is_list" "is_list" sList fL fdL) (GL : FnOk P w K mg base CX0 k fL fdL ["value"] (spList K)) (bL : Binds K fdL ["value"] []) (gL : mg "is_list" = some (.ref fL)) (mtup : mg "tuple" = none) : ∀ n, FnOk P w K mg base CX0 (k + 1 + n) f fd ["value"] (spFix K n)
  | 0 => by
    refine F.ok scFixed (fun vs H Q E h => ?_) (fun cdv A outer s H vs Q E hr h => ?_)
    · obtain ⟨v, d, rfl, _⟩ := h
      rfl
    · obtain ⟨v, d, rfl, hd, hf, q⟩ := h
      refine ⟨_, pss_cons (ps_if (pt_val (pe_call GL hr (by rfl) gL FL.kp bL .nil pass0 (pa_cons (pv 0) pa_nil))) pss_never pss_nil) (pss_one (ps_ret (pv 0))), ?_⟩
      refine Evl.q_when (b := false) (Evl.et_is (Evl.et_B (Evl.ev_call (Evl.ea_cons (Evl.ev_var rfl) Evl.ea_nil) (spv_list (ty_dp hd)))) ?_) (fun z => nomatch z) fun _ H1 e1 => ?_
      · cases d <;> first | rfl | (exact absurd hf (by intro z; cases z))
      · refine Evl.s_ret (Evl.ev_var rfl) fun H2 e2 => q v H2 (e1.trans e2) ?_
        rw [fix_flat hf]
        exact dp_flat hd hf
  | n + 1 => by
    have ih := ok_fix F gF bF FL GL bL gL mtup n
    refine F.ok scFixed (fun vs H Q E h => ?_) (fun cdv A outer s H vs Q E hr h => ?_)
    · obtain ⟨v, d, rfl, _⟩ := h
      rfl
    · obtain ⟨v, d, rfl, hd, hf, q⟩ := h
      have nd := scFixed.nd
      have hrL : Room k (A.deeper (envOfC "fixed" (defScope sFixed) s.heap.objs.size f cdv)) := hr.mono (Nat.le_trans (Nat.le_succ k) (Nat.le_add_right _ _))
      by_cases hfl : flatD d = true
      · refine ⟨_, pss_cons (ps_if (pt_val (pe_call GL hrL (by rfl) gL FL.kp bL .nil pass0 (pa_cons (pv 0) pa_nil))) pss_never pss_nil) (pss_one (ps_ret (pv 0))), ?_⟩
        refine Evl.q_when (b := false) (Evl.et_is (Evl.et_B (Evl.ev_call (Evl.ea_cons (Evl.ev_var rfl) Evl.ea_nil) (spv_list (ty_dp hd)))) ?_) (fun z => nomatch z) fun _ H1 e1 => ?_
        · cases d <;> first | rfl | (exact absurd hfl (by intro z; cases z))
        · refine Evl.s_ret (Evl.ev_var rfl) fun H2 e2 => q v H2 (e1.trans e2) ?_
          rw [fix_flat hfl]
          exact dp_flat hd hfl
      · obtain ⟨ds, hds, hlen, hall⟩ := hf.resolve_left hfl
        have efix : fixD d = .tuple (ds.map fixD) := by
          rcases hds with rfl | rfl <;> rw [fixD, fixDs_map]
        have items : ∀ {a : Addr} {xs : List V}, v = .ref a → DpAll K H xs ds → ∀ {wi : TI} {H1 : Hp}, Evl.Ex H H1 → EvI wi (start ["value", "item"] [v]) H1 xs.length (YAt xs) →
            EvF (tCB (fun xs H Q => ∃ p ys, xs = [V.ref p] ∧ ((SqL K H p ys ∧ ∀ l, H l = none → Q (V.ref l) (upd H l (HO.tup ys))) ∨ (SqT K H p ys ∧ Q (V.ref p) H))) (tCons (tLc wi (gName 1) tYes (tCall (spFix K n) [] E0 (tCons (tVar 1) tNil)) [1]) tNil)) (start ["value", "item"] [v]) H1 (DpN K (fixD d)) := fun {a xs} hv hx {wi H1} e1 hw => by
          have hl := dpAll_len hx
          have hall2 := fun (i : Nat) (u : V) (hu : xs[i]? = some u) => dpa_at hx hu
          refine ef_tupL (K := K) (L := fun ys H => ys.length = xs.length ∧ ∀ (i : Nat) u, ys[i]? = some u → DpN K (fixD (ds.getD i .none)) u H) (fun ys H H' e h => ⟨h.1, fun i u hu => dp_ex e (h.2 i u hu)⟩) (ef_lc hw (aims_at (j := 1)) (fun _ => rfl) (by omega) _ (fun i => dpn_mono _) fun i hi => ?_) fun t ys H' ht hL => ?_
          · obtain ⟨u, hu⟩ : ∃ u, xs[i]? = some u := ⟨_, List.getElem?_eq_getElem hi⟩
            have eu : xs.getD i .non = u := by rw [List.getD_eq_getElem?_getD, hu]; rfl
            refine ef_call (K := K) (vs := [u]) (Evl.ea_cons (Evl.ev_is (Evl.ev_var rfl) eu) Evl.ea_nil) (dpn_mono _) fun H2 e2 Q' q' => ⟨u, ds.getD i .none, rfl, dp_ex (e1.trans e2) (hall2 i u hu), hall _ ?_, fun u' H3 e3 h3 => q' u' H3 e3 h3⟩
            rw [List.getD_eq_getElem?_getD, List.getElem?_eq_getElem (by omega)]
            exact List.getElem_mem _
          · show Dp K H' (.ref t) (fixD d)
            rw [efix]
            refine .tup (Evl.st_of ht) (dpa_of (by rw [hL.1, List.length_map, hl]) fun i u hu => ?_)
            have := hL.2 i u hu
            have hi : i < ds.length := by rw [← hl, ← hL.1]; exact (List.getElem?_eq_some_iff.mp hu).1
            rw [List.getD_eq_getElem?_getD, List.getElem?_map, List.getElem?_eq_getElem hi]
            rw [List.getD_eq_getElem?_getD, List.getElem?_eq_getElem hi] at this
            exact this
        cases hd with
        | @lst a xs ds' hS hx =>
          obtain rfl : ds = ds' := by rcases hds with h | h <;> cases h; rfl
          refine ⟨_, pss_cons (ps_if (pt_val (pe_call GL hrL (by rfl) gL FL.kp bL .nil pass0 (pa_cons (pv 0) pa_nil))) (pss_one (ps_ret (pe_callTy call_tuple_of (by rfl) mtup (by decide +kernel) (pa_cons
            (pe_lc (own := [("item", 1)]) (g := gName 1) (tt := tYes) rfl nd (pi_list (pv 0)) (blkOk_by (N := ["value", "item"]) (sc := defScope sFixed) (by decide +kernel)) (fun _ _ _ _ _ => pg_name (i := 1) nd rfl (Or.inl rfl)) (fun _ _ _ _ _ => pts_nil)
              (fun _ _ _ _ _ => pe_call ih hr (by rfl) gF F.kp bF .nil pass0 (pa_cons (pv 1) pa_nil))) pa_nil)))) pss_nil) pss_never, ?_⟩
          refine Evl.q_when (b := true) (Evl.et_is (Evl.et_B (Evl.ev_call (Evl.ea_cons (Evl.ev_var rfl) Evl.ea_nil) (spv_list (.lst hS)))) (by decide)) (fun _ H1 e1 => ?_) (fun z => by cases z)
          exact items rfl hx e1 (ei_list (K := K) (Evl.ev_var (i := 0) rfl) (Evl.ex_l e1 hS)) H1 (Evl.Ex.refl _) _ fun u H2 e2 h2 => q u H2 (e1.trans e2) (dp_ex (nw_back e1) h2)
        | @tup a xs ds' hS hx =>
          obtain rfl : ds = ds' := by rcases hds with h | h <;> cases h; rfl
          refine ⟨_, pss_cons (ps_if (pt_val (pe_call GL hrL (by rfl) gL FL.kp bL .nil pass0 (pa_cons (pv 0) pa_nil))) (pss_one (ps_ret (pe_callTy call_tuple_of (by rfl) mtup (by decide +kernel) (pa_cons
            (pe_lc (own := [("item", 1)]) (g := gName 1) (tt := tYes) rfl nd (pi_tup (pv 0)) (blkOk_by (N := ["value", "item"]) (sc := defScope sFixed) (by decide +kernel)) (fun _ _ _ _ _ => pg_name (i := 1) nd rfl (Or.inl rfl)) (fun _ _ _ _ _ => pts_nil)
              (fun _ _ _ _ _ => pe_call ih hr (by rfl) gF F.kp bF .nil pass0 (pa_cons (pv 1) pa_nil))) pa_nil)))) pss_nil) pss_never, ?_⟩
          refine Evl.q_when (b := true) (Evl.et_is (Evl.et_B (Evl.ev_call (Evl.ea_cons (Evl.ev_var rfl) Evl.ea_nil) (spv_list (.tup hS)))) (by decide)) (fun _ H1 e1 => ?_) (fun z => by cases z)
          exact items rfl hx e1 (ei_tup (K := K) (Evl.ev_var (i := 0) rfl) (Evl.ex_t e1 hS)) H1 (Evl.Ex.refl _) _ fun u H2 e2 h2 => q u H2 (e1.trans e2) (dp_ex (nw_back e1) h2)
        | _ => exact absurd rfl hfl
end
end P51
end S_Tp
section S_Tu
namespace P51
open PySem PySem.Spec PyProof.Rows L2 Tl Hk EnL
/-- what a paper's making leaves -/
def PapQ (K : PySem.W.Frag) (H : Hp) (x C dx : Addr) (w : V) (fs : List (Str × V)) (ds : List PyData) (Q : VK) : Prop := ∀ t us H', But x H H' → H' x = some (.ins C dx (putF "parts" (.ref t) (putF "word" w fs))) →
  SqT K (nw H H') t us → DpAll K (nw H H') us (ds.map fixD) → Q .non H'
def spPaper (K : PySem.W.Frag) (n : Nat) (C : Addr) : Sp := fun vs H Q _ => ∃ (x dx p : Addr) (w : V) (us : List V) (ds : List PyData) (fs : List (Str × V)), vs = [.ref x, w, .ref p] ∧ H x = some (.ins C dx fs) ∧ TPap K C ∧ fs.length < 900 ∧ H p = some (.tup us) ∧ DpAll K H us ds ∧ Fixable n (.tuple ds) ∧ PapQ K H x C dx w fs ds Q
def FnPap (P : Program) (w : World) (K : PySem.W.Frag) (mg : Str → Option Value) (base : Heap) (k n : Nat) (C f : Addr) : Prop := FnR P w K mg base CX0 k f (fun vs H Q E => ∃ ws rest, vs = ws ++ rest ∧ ws.length = 2 ∧ rest.length ≤ sizeLine ∧ ∀ p, H p = Option.none → spPaper K n C (ws ++ [V.ref p]) (upd H p (.tup rest)) Q E)
theorem dpa_len {K : PySem.W.Frag} : ∀ {H : Hp} {vs : List V} {ds : List PyData}, DpAll K H vs ds → vs.length = ds.length
  | _, _, _, .nil => rfl
  | _, _, _, .cons _ t => congrArg Nat.succ (dpa_len t)
theorem fixable_len {n : Nat} {ds : List PyData} (h : Fixable n (.tuple ds)) : ds.length ≤ 4000 := by
  cases n with
  | zero => exact absurd h (by intro z; cases z)
  | succ n =>
    rcases h with h | ⟨es, h1, h2, _⟩
    · cases h
    · rcases h1 with h1 | h1
      · cases h1
      · cases h1; exact h2
section
variable {P : Program} {w : World} {K : PySem.W.Frag} {mg : Str → Option Value} {base : Heap}
theorem ok_paperI {n : Nat} {C : Addr} {f fX oc od osl : _} {kV doc pm cdv ct : Value} {an : Option Addr} {fdX : FuncData} {k : Nat}
    (lk : K.lookup f = some ⟨oc, od, .func (PySem.W.fnOf "__init__" "Paper.__init__" (defArgs sPaperI) (defBody sPaperI) (defScope sPaperI) .none kV doc pm an cdv ct), osl⟩) (hcd : PySem.W.codeIn K cdv "Paper.__init__" = true)
    (FX : Fun K "fixed" "fixed" sFixed fX fdX) (GX : FnOk P w K mg base CX0 k fX fdX ["value"] (spFix K n)) (bX : Binds K fdX ["value"] []) (gX : mg "fixed" = some (.ref fX)) : FnPap P w K mg base (k + 1) n C f := by
  refine StX.fn_star (N := ["self", "word", "parts"]) (ps := ["self", "word"]) (pv := "parts") (sp := spPaper K n C) lk hcd scPaperI StX.cxUp_none (fun us rest hl => ?_) (fun A outer s H vs Q E hr h => ?_)
  · match us, hl, rest with
    | [_, _], _, [] => rfl
    | [_, _], _, _ :: _ => rfl
  · obtain ⟨x, dx, p, w, us, ds, fs, rfl, hx, T, hf, hp, hd, hfx, q⟩ := h
    refine ⟨_, pss_cons (ps_fld (pv 0) (pv 1) rfl) (pss_one (ps_fld (pv 0) (pe_call GX hr (by rfl) gX FX.kp bX .nil pass0 (pa_cons (pv 2) pa_nil)) rfl)), ?_⟩
    have xp : p ≠ x := fun z => by
      rw [z, hx] at hp
      cases hp
    have b1 : But x H (upd H x (.ins C dx (putF "word" w fs))) := fun b o hb h => by rw [upd_ne hb]; exact h
    have hd1 : Dp K (upd H x (.ins C dx (putF "word" w fs))) (.ref p) (.tuple ds) := dp_but b1 hx (.tup (Evl.st_of hp) hd)
    refine ⟨w, rfl, _, rfl, x, C, dx, fs, rfl, hx, T.cl, T.nW, by omega, _, rfl, .ref p, .tuple ds, rfl, hd1, hfx, fun u H1 e1 h1 => ?_⟩
    have hx1 := e1 _ _ upd_same
    have := putF_len "word" w fs
    rw [fixD, fixDs_map] at h1
    cases h1 with
    | @tup t us' _ hS hD =>
      refine ⟨_, rfl, x, C, dx, _, rfl, hx1, T.cl, T.nP, by omega, ?_⟩
      have b2 : But x H (upd H1 x (.ins C dx (putF "parts" (.ref t) (putF "word" w fs)))) := fun b o hb h => by rw [upd_ne hb]; exact e1 _ _ (b1 b o hb h)
      have le : Evl.Ex (nw (upd H x (.ins C dx (putF "word" w fs))) H1) (nw H (upd H1 x (.ins C dx (putF "parts" (.ref t) (putF "word" w fs))))) := fun b o h => by
        obtain ⟨h1, h2⟩ := nw_at h
        have bx : b ≠ x := fun z => by rw [z, upd_same] at h1; cases h1
        rw [upd_ne bx] at h1
        exact nw_of h1 (by rw [upd_ne bx]; exact h2)
      exact q t us' _ b2 upd_same (Evl.ex_t le hS) (dpa_ex le hD)
/-- Denial's: it hands on -/
theorem ok_denialI {n : Nat} {f f2 D C cc cda : Addr} {kV doc pm ct : Value} {an : Option Addr} {k : Nat}
    (B : SuFacts P K f f2 D C cc cda (PySem.W.ksFn "__init__" "Denial.__init__" (defArgs sDenialI) (defBody sDenialI) (defScope sDenialI) .none kV doc pm an (.ref cda) ct cc) "self")
    (hcd : PySem.W.codeIn K (.ref cda) "Denial.__init__" = true) (ms : mg "super" = none) (F2 : FnPap P w K mg base k n C f2) : FnPap P w K mg base (k + 1) n C f := by
  refine fn_superS (N := ["self", "word", "parts"]) (ps := ["self", "word"]) (pv := "parts") (sp := spPaper K n C) B hcd scDenialI rfl ms F2 (fun us rest hl => ?_) (fun A outer s H vs Q E hr h => ?_) (fun env => rfl) (fun env => rfl) (fun env => rfl)
  · match us, hl, rest with
    | [_, _], _, [] => rfl
    | [_, _], _, _ :: _ => rfl
  · obtain ⟨x, dx, p, w, us, ds, fs, rfl, hx, T, hf, hp, hd, hfx, q⟩ := h
    refine ⟨_, _, _, x, dx, fs, pv 1, pv 2, pss_nil, rfl, hx, fun m hm => ?_⟩
    have mp : p ≠ m := ne_of_none hp hm
    have mx : x ≠ m := ne_of_none hx hm
    refine ⟨w, rfl, .ref p, rfl, p, us, rfl, .inl (Evl.st_of (by rw [upd_ne mp]; exact hp)), upd_same, [.ref x, w], us, rfl, rfl, by rw [dpa_len hd, sizeLine_eq]; have := fixable_len hfx; omega, fun p2 hp2 => ?_⟩
    have e1 : Evl.Ex H (upd (upd H m (.met f2 x)) p2 (.tup us)) := (Evl.Ex.new hm).trans (Evl.Ex.new hp2)
    exact ⟨x, dx, p2, w, us, ds, fs, rfl, e1 _ _ hx, T, hf, upd_same, dpa_ex e1 hd, hfx, fun t us' H' b hx' hS hD => q t us' H' (fun b' o hb h => b b' o hb (e1 _ _ h)) hx' (Evl.ex_t (nw_back e1) hS) (dpa_ex (nw_back e1) hD)⟩
/-- what a Calm, a Stray is -/
def spCalmI (C : Addr) : Sp := fun vs H Q _ => ∃ (x dx : Addr), vs = [.ref x] ∧ H x = some (.ins C dx []) ∧ ∀ H' fs, But x H H' → H' x = some (.ins C dx fs) → fs.lookup ("word" : Str) = some (.str "calm") → Q .non H'
set_option maxHeartbeats 2000000 in
theorem ok_calmI {f f2 C cc cda : Addr} {kV doc pm ct : Value} {an : Option Addr} {k n : Nat}
    (B : SuFacts P K f f2 C C cc cda (PySem.W.ksFn "__init__" "Calm.__init__" (defArgs sCalmI) (defBody sCalmI) (defScope sCalmI) .none kV doc pm an (.ref cda) ct cc) "self")
    (hcd : PySem.W.codeIn K (.ref cda) "Calm.__init__" = true) (ms : mg "super" = none) (T : TPap K C) (F2 : FnPap P w K mg base k (n + 1) C f2) :
    FnOk P w K mg base CX0 (k + 1) f (PySem.W.ksFn "__init__" "Calm.__init__" (defArgs sCalmI) (defBody sCalmI) (defScope sCalmI) .none kV doc pm an (.ref cda) ct cc) ["self"] (spCalmI C) := by
  refine fn_super (N := ["self"]) (sp := spCalmI C) B hcd scCalmI rfl ms F2 (fun {vs H Q E} h => ?_) (fun A outer s H vs Q E hr h => ?_) (pl := pure false) ?_ ?_ ?_ ?_
  · obtain ⟨x, dx, rfl, _⟩ := h
    rfl
  · obtain ⟨x, dx, rfl, hx, q⟩ := h
    refine ⟨_, _, x, dx, [], pa_cons pe_str pa_nil, pss_nil, rfl, hx, fun m hm => ?_⟩
    refine ⟨upd_same, [.ref x, .str "calm"], [], rfl, rfl, Nat.zero_le _, fun p hp => ?_⟩
    have e1 : Evl.Ex H (upd (upd H m (.met f2 x)) p (.tup [])) := (Evl.Ex.new hm).trans (Evl.Ex.new hp)
    exact ⟨x, dx, p, .str "calm", [], [], [], rfl, e1 _ _ hx, T, by show 0 < 900; omega, upd_same, .nil, .inr ⟨[], .inr rfl, by show 0 ≤ 4000; omega, fun e he => nomatch he⟩, fun t us' H' b hx' _ _ => q H' _ (fun b' o hb h => b b' o hb (e1 _ _ h)) hx' (by rw [lookup_putF, if_neg (by decide), lookup_putF, if_pos rfl])⟩
  · exact fun env => rfl
  · exact fun env => rfl
  · exact fun env => rfl
  · exact fun env => rfl
/-- a Stray: its walk, made fixed -/
def StrayAt (K : PySem.W.Frag) (C : Addr) (H : Hp) (x : Addr) (d : PyData) : Prop := ∃ dx fs v, H x = some (.ins C dx fs) ∧ fs.lookup ("word" : Str) = some (.str "stray") ∧ fs.lookup ("walk" : Str) = some v ∧ Dp K H v d
def spStrayI (K : PySem.W.Frag) (n : Nat) (C : Addr) : Sp := fun vs H Q _ => ∃ (x dx : Addr) (v : V) (d : PyData), vs = [.ref x, v] ∧ H x = some (.ins C dx []) ∧ Dp K H v d ∧ Fixable n d ∧
  ∀ H' fs u, But x H H' → H' x = some (.ins C dx fs) → fs.lookup ("word" : Str) = some (.str "stray") → fs.lookup ("walk" : Str) = some u → Dp K (nw H H') u (fixD d) → Q .non H'
set_option maxHeartbeats 2000000 in
theorem ok_strayI {f f2 C cc cda : Addr} {kV doc pm ct : Value} {an : Option Addr} {k n : Nat}
    (B : SuFacts P K f f2 C C cc cda (PySem.W.ksFn "__init__" "Stray.__init__" (defArgs sStrayI) (defBody sStrayI) (defScope sStrayI) .none kV doc pm an (.ref cda) ct cc) "self")
    (hcd : PySem.W.codeIn K (.ref cda) "Stray.__init__" = true) (ms : mg "super" = none) (T : TPap K C) (nWk : NoAttr K C "walk") (F2 : FnPap P w K mg base k (n + 1) C f2) :
    FnOk P w K mg base CX0 (k + 1) f (PySem.W.ksFn "__init__" "Stray.__init__" (defArgs sStrayI) (defBody sStrayI) (defScope sStrayI) .none kV doc pm an (.ref cda) ct cc) ["self", "walk"] (spStrayI K n C) := by
  refine fn_super (N := ["self", "walk"]) (sp := spStrayI K n C) B hcd scStrayI rfl ms F2 (fun {vs H Q E} h => ?_) (fun A outer s H vs Q E hr h => ?_) (pl := pure false) ?_ ?_ ?_ ?_
  · obtain ⟨x, dx, v, d, rfl, _⟩ := h
    rfl
  · obtain ⟨x, dx, v, d, rfl, hx, hd, hfx, q⟩ := h
    refine ⟨_, _, x, dx, [], pa_cons pe_str (pa_cons (pv 1) pa_nil), pss_one (ps_fld (pv 0) (pe_ix ix_tup (pe_fld (pv 0) rfl) pe_int (fun _ _ => rfl)) rfl), rfl, hx, fun m hm => ?_⟩
    refine ⟨v, rfl, upd_same, [.ref x, .str "stray"], [v], rfl, rfl, by show 1 ≤ sizeLine; decide, fun p hp => ?_⟩
    have e1 : Evl.Ex H (upd (upd H m (.met f2 x)) p (.tup [v])) := (Evl.Ex.new hm).trans (Evl.Ex.new hp)
    refine ⟨x, dx, p, .str "stray", [v], [d], [], rfl, e1 _ _ hx, T, by show 0 < 900; omega, upd_same, .cons (dp_ex e1 hd) .nil, .inr ⟨[d], .inr rfl, by show 1 ≤ 4000; omega, fun e he => by rw [List.mem_singleton.mp he]; exact hfx⟩, fun t us' H' b hx' hS hD => ?_⟩
    cases hD with
    | @cons u us'' _ _ hu hrest =>
      cases hrest
      have b' : But x H H' := fun b' o hb h => b b' o hb (e1 _ _ h)
      have l1 := putF_len "word" (V.str "stray") []
      have l2 := putF_len "parts" (V.ref t) (putF "word" (V.str "stray") [])
      refine ⟨.ref x, rfl, x, C, dx, _, .ref t, rfl, hx', T.cl, T.nP, by rw [lookup_putF, if_pos rfl], t, [u], 0, u, rfl, rfl, Evl.ex_t nw_ex hS, rfl, .ref x, rfl, x, C, dx, _, rfl, hx', T.cl, nWk, by show _ < 1000; simp at l1 l2; omega, ?_⟩
      have b2 : But x H (upd H' x (.ins C dx (putF "walk" u (putF "parts" (.ref t) (putF "word" (.str "stray") []))))) := fun b o hb h => by rw [upd_ne hb]; exact b' b o hb h
      refine q _ _ u b2 upd_same (by rw [lookup_putF, if_neg (by decide), lookup_putF, if_neg (by decide), lookup_putF, if_pos rfl]) (by rw [lookup_putF, if_pos rfl]) (dp_ex (fun b o h => ?_) hu)
      obtain ⟨h1, h2⟩ := nw_at h
      have hb1 : H b = none := Evl.fresh_back e1 h1
      have bx : b ≠ x := fun z => by rw [z, hx] at hb1; cases hb1
      exact nw_of hb1 (by rw [upd_ne bx]; exact h2)
  · exact fun env => rfl
  · exact fun env => rfl
  · exact fun env => rfl
  · exact fun env => rfl
end
end P51
end S_Tu
section S_Vm
namespace W50
/-- pairs of places that two walks come to side by side, over alike colours -/
inductive Rch (c : Int → Int) (n one other : Int) : Int → Int → Bool → Prop where
  | start : Rch c n one other one other (decide (one ≠ other))
  | step {x y x' y' : Int} {f : Bool} (r : Rch c n one other x y f) (h1 : -1 ≤ x' - x) (h2 : x' - x ≤ 1) (h3 : -1 ≤ y' - y) (h4 : y' - y ≤ 1) (h5 : 0 ≤ x') (h6 : x' < n) (h7 : 0 ≤ y') (h8 : y' < n) (hc : c x' = c y') : Rch c n one other x' y' (f || decide (x' ≠ y'))
def Near (c : Int → Int) (n : Int) : Prop := ∀ p q, 0 ≤ p → p < n → 0 ≤ q → q < n → c p = c q → p - q ≤ 2 → q - p ≤ 2 → p = q
def NoRep (c : Int → Int) (n : Int) : Prop := ∀ b h, 1 ≤ h → 0 ≤ b → b + 2 * h ≤ n → ¬ ∀ j, 0 ≤ j → j < h → c (b + j) = c (b + h + j)
/-- a shift, or a mirroring -/
def Sh (c : Int → Int) (n one other x y : Int) (f : Bool) : Prop := ∃ lo hi, lo ≤ one ∧ one ≤ hi ∧ lo ≤ x ∧ x ≤ hi ∧ y = x + (other - one) ∧ (f = true → other ≠ one) ∧ ∀ p, lo ≤ p → p ≤ hi → 0 ≤ p ∧ p < n ∧ 0 ≤ p + (other - one) ∧ p + (other - one) < n ∧ c p = c (p + (other - one))
def Mi (c : Int → Int) (n one other x y : Int) : Prop := ∃ lo hi, lo ≤ one ∧ one ≤ hi ∧ lo < hi ∧ lo ≤ x ∧ x ≤ hi ∧ y = (other + one) - x ∧ other ≠ one ∧ ∀ p, lo ≤ p → p ≤ hi → 0 ≤ p ∧ p < n ∧ 0 ≤ (other + one) - p ∧ (other + one) - p < n ∧ c p = c ((other + one) - p)
theorem inv {c : Int → Int} {n one other : Int} (N : Near c n) (h1 : 0 ≤ one) (h2 : one < n) (h3 : 0 ≤ other) (h4 : other < n) (hc : c one = c other) {x y : Int} {f : Bool} (r : Rch c n one other x y f) :
    Sh c n one other x y f ∨ Mi c n one other x y := by
  induction r with
  | start =>
    refine .inl ⟨one, one, by omega, by omega, by omega, by omega, by omega, fun h => ?_, fun p a b => ?_⟩
    · have := of_decide_eq_true h
      omega
    · obtain rfl : p = one := by omega
      exact ⟨h1, h2, by omega, by omega, by rw [hc]; congr 1; omega⟩
  | @step x y x' y' f r a1 a2 a3 a4 a5 a6 a7 a8 hc' ih =>
    rcases ih with ⟨lo, hi, b1, b2, b3, b4, rfl, b6, b7⟩ | ⟨lo, hi, b1, b2, b0, b3, b4, rfl, b6, b7⟩
    · have hx := b7 x b3 b4
      by_cases e : y' = x' + (other - one)
      · refine .inl ⟨min lo x', max hi x', by omega, by omega, by omega, by omega, e, fun h => ?_, fun p p1 p2 => ?_⟩
        · rcases Bool.or_eq_true_iff.mp h with h | h
          · exact b6 h
          · have := of_decide_eq_true h
            omega
        · by_cases q : p = x'
          · rw [q]
            exact ⟨a5, a6, by omega, by omega, by rw [hc', e]⟩
          · exact b7 p (by omega) (by omega)
      · have e0 : x' ≠ x := fun z => by
          rw [z] at hc' e
          have := N y' (x + (other - one)) a7 a8 hx.2.2.1 hx.2.2.2.1 (by rw [← hc', hx.2.2.2.2]) (by omega) (by omega)
          exact e this
        have e1 : y' ≠ x + (other - one) := fun z => by
          have := N x' x a5 a6 hx.1 hx.2.1 (by rw [hc', z, hx.2.2.2.2]) (by omega) (by omega)
          exact e0 this
        -- they part
        have s1 : x' ≠ x + 1 ∨ hi ≤ x := by
          by_cases q : x' = x + 1
          · refine .inr ?_
            by_cases z : hi ≤ x
            · exact z
            exfalso
            have w := b7 (x + 1) (by omega) (by omega)
            have := N y' (x + 1 + (other - one)) a7 a8 w.2.2.1 w.2.2.2.1 (by rw [← hc', q, w.2.2.2.2]) (by omega) (by omega)
            omega
          · exact .inl q
        have s2 : x' ≠ x + 1 ∨ x ≤ lo := by
          by_cases q : x' = x + 1
          · refine .inr ?_
            by_cases z : x ≤ lo
            · exact z
            exfalso
            have w := b7 (x - 1) (by omega) (by omega)
            have := N x' (x - 1) a5 a6 w.1 w.2.1 (by rw [hc', w.2.2.2.2]; congr 1; omega) (by omega) (by omega)
            omega
          · exact .inl q
        have s3 : x' ≠ x - 1 ∨ x ≤ lo := by
          by_cases q : x' = x - 1
          · refine .inr ?_
            by_cases z : x ≤ lo
            · exact z
            exfalso
            have w := b7 (x - 1) (by omega) (by omega)
            have := N y' (x - 1 + (other - one)) a7 a8 w.2.2.1 w.2.2.2.1 (by rw [← hc', q, w.2.2.2.2]) (by omega) (by omega)
            omega
          · exact .inl q
        have s4 : x' ≠ x - 1 ∨ hi ≤ x := by
          by_cases q : x' = x - 1
          · refine .inr ?_
            by_cases z : hi ≤ x
            · exact z
            exfalso
            have w := b7 (x + 1) (by omega) (by omega)
            have := N x' (x + 1) a5 a6 w.1 w.2.1 (by rw [hc', w.2.2.2.2]; congr 1; omega) (by omega) (by omega)
            omega
          · exact .inl q
        have ex : x = one := by omega
        subst ex
        have ne : other ≠ x := fun z => by
          have := N x' y' a5 a6 a7 a8 hc' (by omega) (by omega)
          omega
        refine .inr ⟨min x x', max x x', by omega, by omega, by omega, by omega, by omega, by omega, ne, fun p p1 p2 => ?_⟩
        by_cases q : p = x'
        · rw [q]
          exact ⟨a5, a6, by omega, by omega, by rw [hc']; congr 1; omega⟩
        · have q2 : p = x := by omega
          rw [q2]
          exact ⟨h1, h2, by omega, by omega, by rw [hc]; congr 1; omega⟩
    · have hx := b7 x b3 b4
      by_cases e : y' = (other + one) - x'
      · refine .inr ⟨min lo x', max hi x', by omega, by omega, by omega, by omega, by omega, e, b6, fun p p1 p2 => ?_⟩
        by_cases q : p = x'
        · rw [q]
          exact ⟨a5, a6, by omega, by omega, by rw [hc', e]⟩
        · exact b7 p (by omega) (by omega)
      · exfalso
        have e0 : x' ≠ x := fun z => by
          rw [z] at hc' e
          have := N y' ((other + one) - x) a7 a8 hx.2.2.1 hx.2.2.2.1 (by rw [← hc', hx.2.2.2.2]) (by omega) (by omega)
          exact e this
        have e1 : y' ≠ (other + one) - x := fun z => by
          have := N x' x a5 a6 hx.1 hx.2.1 (by rw [hc', z, hx.2.2.2.2]) (by omega) (by omega)
          exact e0 this
        by_cases q : x + 1 ≤ hi
        · have w := b7 (x + 1) (by omega) q
          by_cases q2 : x' = x + 1
          · have := N y' ((other + one) - (x + 1)) a7 a8 w.2.2.1 w.2.2.2.1 (by rw [← hc', q2, w.2.2.2.2]) (by omega) (by omega)
            omega
          · have := N x' (x + 1) a5 a6 w.1 w.2.1 (by rw [hc', w.2.2.2.2]; congr 1; omega) (by omega) (by omega)
            omega
        · have w := b7 (x - 1) (by omega) (by omega)
          by_cases q2 : x' = x - 1
          · have := N y' ((other + one) - (x - 1)) a7 a8 w.2.2.1 w.2.2.2.1 (by rw [← hc', q2, w.2.2.2.2]) (by omega) (by omega)
            omega
          · have := N x' (x - 1) a5 a6 w.1 w.2.1 (by rw [hc', w.2.2.2.2]; congr 1; omega) (by omega) (by omega)
            omega
/-- over calm colours two such walks that follow each other are one -/
theorem calm {c : Int → Int} {n one other : Int} (N : Near c n) (R : NoRep c n) (h1 : 0 ≤ one) (h2 : one < n) (h3 : 0 ≤ other) (h4 : other < n) (hc : c one = c other) {x y : Int} {f : Bool} (r : Rch c n one other x y f)
    (d1 : -1 ≤ x - other) (d2 : x - other ≤ 1) : f = false := by
  cases f with
  | false => rfl
  | true =>
    exfalso
    rcases inv N h1 h2 h3 h4 hc r with ⟨lo, hi, b1, b2, b3, b4, rfl, b6, b7⟩ | ⟨lo, hi, b1, b2, b0, b3, b4, rfl, b6, b7⟩
    · have ne := b6 rfl
      by_cases q : one < other
      · have w := b7 (other - 1) (by omega) (by omega)
        refine R one (other - one) (by omega) h1 (by omega) fun j j1 j2 => ?_
        have := (b7 (one + j) (by omega) (by omega)).2.2.2.2
        rw [this]
        congr 1
        omega
      · have w := b7 (other + 1) (by omega) (by omega)
        refine R (2 * other - one + 1) (one - other) (by omega) (by omega) (by omega) fun j j1 j2 => ?_
        have := (b7 (other + 1 + j) (by omega) (by omega)).2.2.2.2
        rw [show 2 * other - one + 1 + (one - other) + j = other + 1 + j by omega, this]
        congr 1
        omega
    · by_cases q : one < other
      · have w := b7 ((other + one - 1) / 2) (by omega) (by omega)
        have := N _ _ w.1 w.2.1 w.2.2.1 w.2.2.2.1 w.2.2.2.2 (by omega) (by omega)
        omega
      · have w := b7 ((other + one) / 2 + 1) (by omega) (by omega)
        have := N _ _ w.1 w.2.1 w.2.2.1 w.2.2.2.1 w.2.2.2.2 (by omega) (by omega)
        omega
/-- the colours of a word, at whole numbers -/
def colZ (ws : List Int) (i : Int) : Int := ws.getD i.toNat 0
theorem near_of {ws : List Int} (h : W52.Calm ws) : Near (colZ ws) ws.length := by
  have adj : ∀ i : Nat, i + 1 < ws.length → ws.getD i 0 ≠ ws.getD (i + 1) 0 := fun i hi z => h.1 i 1 ⟨by omega, by omega, fun j hj => by
    obtain rfl : j = 0 := by omega
    unfold W48.M
    rw [Nat.add_zero, Nat.add_comm 1 i]
    exact z.symm⟩
  have half : ∀ p q : Int, 0 ≤ p → q < ws.length → colZ ws p = colZ ws q → p ≤ q → q - p ≤ 2 → p = q := fun p q p0 q1 e l1 l2 => by
    unfold colZ at e
    by_cases z1 : q = p + 1
    · exact absurd (by rw [e, show q.toNat = p.toNat + 1 by omega]) (adj p.toNat (by omega))
    · by_cases z2 : q = p + 2
      · exact absurd (by rw [e, show q.toNat = p.toNat + 2 by omega]) (h.2 p.toNat (by omega))
      · omega
  intro p q p0 p1 q0 q1 e l1 l2
  by_cases z : p ≤ q
  · exact half p q p0 q1 e z l2
  · exact (half q p q0 p1 e.symm (by omega) l1).symm
theorem norep_of {ws : List Int} (h : W52.Calm ws) : NoRep (colZ ws) ws.length := fun b hh h1 h2 h3 hj => h.1 b.toNat hh.toNat ⟨by omega, by omega, fun j jl => by
  have := hj j (by omega) (by omega)
  unfold colZ at this
  unfold W48.M
  rw [show (b + (j : Int)).toNat = b.toNat + j by omega, show (b + hh + (j : Int)).toNat = hh.toNat + (b.toNat + j) by omega] at this
  exact this.symm⟩
end W50
end S_Vm
section S_Vo
namespace W50
abbrev Tr := Int × Int × Bool
/-- a step from a pair to the next -/
def Nx (c : Int → Int) (n : Int) (t u : Tr) : Prop := -1 ≤ u.1 - t.1 ∧ u.1 - t.1 ≤ 1 ∧ -1 ≤ u.2.1 - t.2.1 ∧ u.2.1 - t.2.1 ≤ 1 ∧ 0 ≤ u.1 ∧ u.1 < n ∧ 0 ≤ u.2.1 ∧ u.2.1 < n ∧ c u.1 = c u.2.1 ∧ u.2.2 = (t.2.2 || decide (u.1 ≠ u.2.1))
def Viol (other : Int) (t : Tr) : Prop := t.2.2 = true ∧ -1 ≤ t.1 - other ∧ t.1 - other ≤ 1
/-- what is met from a pair on: up to i all steps are taken -/
structure Wk (c : Int → Int) (n one other : Int) (i : Nat) (ts : List Tr) : Prop where
  st : ts[0]? = some (one, other, decide (one ≠ other))
  nd : ts.Nodup
  good : ∀ t ∈ ts, Rch c n one other t.1 t.2.1 t.2.2 ∧ 0 ≤ t.1 ∧ t.1 < n ∧ 0 ≤ t.2.1 ∧ t.2.1 < n
  le : i ≤ ts.length
  cl : ∀ t ∈ ts.take i, ¬ Viol other t ∧ ∀ u, Nx c n t u → u ∈ ts
theorem Wk.start {c : Int → Int} {n one other : Int} (h1 : 0 ≤ one) (h2 : one < n) (h3 : 0 ≤ other) (h4 : other < n) : Wk c n one other 0 [(one, other, decide (one ≠ other))] :=
  ⟨rfl, (List.nodup_cons.mpr ⟨List.not_mem_nil, List.nodup_nil⟩), fun t ht => by
    rw [List.mem_singleton.mp ht]
    exact ⟨.start, h1, h2, h3, h4⟩, Nat.zero_le _, fun t ht => nomatch ht⟩
theorem Wk.push {c : Int → Int} {n one other : Int} {i : Nat} {ts : List Tr} {t u : Tr} (W : Wk c n one other i ts) (ht : t ∈ ts) (hn : Nx c n t u) (hu : u ∉ ts) : Wk c n one other i (ts ++ [u]) := by
  refine ⟨?_, ?_, fun x hx => ?_, ?_, fun x hx => ?_⟩
  · rw [List.getElem?_append_left (List.getElem?_eq_some_iff.mp W.st).1]
    exact W.st
  · exact List.nodup_append.mpr ⟨W.nd, (List.nodup_cons.mpr ⟨List.not_mem_nil, List.nodup_nil⟩), fun a ha b hb e => hu (by rw [← List.mem_singleton.mp hb, ← e]; exact ha)⟩
  · rcases List.mem_append.mp hx with hx | hx
    · exact W.good x hx
    · rw [List.mem_singleton.mp hx]
      obtain ⟨a1, a2, a3, a4, a5, a6, a7, a8, a9, a0⟩ := hn
      exact ⟨by rw [a0]; exact (W.good t ht).1.step a1 a2 a3 a4 a5 a6 a7 a8 a9, a5, a6, a7, a8⟩
  · rw [List.length_append]
    have := W.le
    omega
  · rw [List.take_append_of_le_length W.le] at hx
    exact ⟨(W.cl x hx).1, fun v hv => List.mem_append_left _ ((W.cl x hx).2 v hv)⟩
theorem Wk.next {c : Int → Int} {n one other : Int} {i : Nat} {ts : List Tr} {t : Tr} (W : Wk c n one other i ts) (ht : ts[i]? = some t) (hv : ¬ Viol other t) (hn : ∀ u, Nx c n t u → u ∈ ts) : Wk c n one other (i + 1) ts := by
  have hl := (List.getElem?_eq_some_iff.mp ht).1
  refine ⟨W.st, W.nd, W.good, hl, fun x hx => ?_⟩
  rw [List.take_succ_eq_append_getElem hl] at hx
  rcases List.mem_append.mp hx with hx | hx
  · exact W.cl x hx
  · have : x = t := by
      rw [List.mem_singleton.mp hx]
      exact (List.getElem?_eq_some_iff.mp ht).2
    rw [this]
    exact ⟨hv, hn⟩
theorem Wk.all {c : Int → Int} {n one other : Int} {ts : List Tr} (W : Wk c n one other ts.length ts) {x y : Int} {f : Bool} (r : Rch c n one other x y f) : (x, y, f) ∈ ts ∧ ¬ Viol other (x, y, f) := by
  have : (x, y, f) ∈ ts := by
    induction r with
    | start => exact List.mem_of_getElem? W.st
    | step r a1 a2 a3 a4 a5 a6 a7 a8 hc ih => exact (W.cl _ (by rw [List.take_length]; exact ih)).2 _ ⟨a1, a2, a3, a4, a5, a6, a7, a8, hc, rfl⟩
  exact ⟨this, (W.cl _ (by rw [List.take_length]; exact this)).1⟩
theorem nodup_leT : ∀ {l m : List Tr}, l.Nodup → (∀ s ∈ l, s ∈ m) → l.length ≤ m.length
  | [], _, _, _ => Nat.zero_le _
  | a :: l, m, hn, h => by
    have h1 := List.nodup_cons.mp hn
    have h2 := nodup_leT (m := m.erase a) h1.2 fun s hs => (List.mem_erase_of_ne (fun e => h1.1 (by rw [← e]; exact hs))).mpr (h s (List.mem_cons_of_mem _ hs))
    rw [List.length_erase_of_mem (h a List.mem_cons_self)] at h2
    have := List.length_pos_of_mem (h a List.mem_cons_self)
    show l.length + 1 ≤ _
    omega
def allT (n : Nat) : List Tr := (List.range n).flatMap fun x : Nat => (List.range n).flatMap fun y : Nat => [((x : Int), (y : Int), true), ((x : Int), (y : Int), false)]
theorem flat_len {α β : Type} (f : α → List β) (k : Nat) : ∀ l : List α, (∀ a ∈ l, (f a).length = k) → (l.flatMap f).length = l.length * k
  | [], _ => by simp
  | a :: l, h => by
    rw [List.flatMap_cons, List.length_append, h a List.mem_cons_self, flat_len f k l fun b hb => h b (List.mem_cons_of_mem _ hb), List.length_cons, Nat.succ_mul, Nat.add_comm]
theorem allT_len (n : Nat) : (allT n).length = n * (n * 2) := by
  unfold allT
  rw [flat_len _ (n * 2), List.length_range]
  intro a _
  rw [flat_len _ 2, List.length_range]
  intro b _
  rfl
theorem Wk.few {c : Int → Int} {n : Nat} {one other : Int} {i : Nat} {ts : List Tr} (W : Wk c n one other i ts) : ts.length ≤ n * (n * 2) := by
  rw [← allT_len]
  refine nodup_leT W.nd fun t ht => ?_
  obtain ⟨_, h1, h2, h3, h4⟩ := W.good t ht
  unfold allT
  refine List.mem_flatMap.mpr ⟨t.1.toNat, List.mem_range.mpr (by omega), List.mem_flatMap.mpr ⟨t.2.1.toNat, List.mem_range.mpr (by omega), ?_⟩⟩
  rw [Int.toNat_of_nonneg h1, Int.toNat_of_nonneg h3]
  obtain ⟨x, y, f⟩ := t
  cases f <;> simp
/-- some walks stray -/
def StrayP (ws : List Int) (one other : Int) : Prop := ∃ x y, Rch (colZ ws) ws.length one other x y true ∧ -1 ≤ x - other ∧ x - other ≤ 1
def Strayed (ws : List Int) : Prop := ∃ one other : Nat, one < ws.length ∧ other < ws.length ∧ colZ ws one = colZ ws other ∧ StrayP ws one other
theorem not_strayed {ws : List Int} (h : W52.Calm ws) : ¬ Strayed ws := fun ⟨one, other, h1, h2, hc, x, y, r, d1, d2⟩ => by
  have := calm (near_of h) (norep_of h) (by omega) (by omega) (by omega) (by omega) hc r d1 d2
  cases this
end W50
end S_Vo
section S_Vu
namespace W50
theorem walk_pair {c : Int → Int} {n : Int} {ws : List Int} (inn : ∀ w ∈ ws, 0 ≤ w ∧ w < n) (near : ∀ i, i + 1 < ws.length → -1 ≤ ws.getD (i + 1) 0 - ws.getD i 0 ∧ ws.getD (i + 1) 0 - ws.getD i 0 ≤ 1) {b h : Nat} (hb : b + 2 * h ≤ ws.length)
    (hc : ∀ i, i < h → c (ws.getD (b + i) 0) = c (ws.getD (b + h + i) 0)) : ∀ i, i < h → ∃ f, Rch c n (ws.getD b 0) (ws.getD (b + h) 0) (ws.getD (b + i) 0) (ws.getD (b + h + i) 0) f ∧ ∀ j, j ≤ i → ws.getD (b + j) 0 ≠ ws.getD (b + h + j) 0 → f = true
  | 0, hi => ⟨_, .start, fun j hj hn => by
    obtain rfl : j = 0 := by omega
    exact decide_eq_true hn⟩
  | i + 1, hi => by
    obtain ⟨f, r, hf⟩ := walk_pair inn near hb hc i (by omega)
    have at_ : ∀ j, j < ws.length → 0 ≤ ws.getD j 0 ∧ ws.getD j 0 < n := fun j hj => by
      rw [List.getD_eq_getElem?_getD, List.getElem?_eq_getElem hj]
      exact inn _ (List.getElem_mem hj)
    have n1 := near (b + i) (by omega)
    have n2 := near (b + h + i) (by omega)
    have a1 := at_ (b + (i + 1)) (by omega)
    have a2 := at_ (b + h + (i + 1)) (by omega)
    refine ⟨_, r.step n1.1 n1.2 n2.1 n2.2 a1.1 a1.2 a2.1 a2.2 (hc (i + 1) hi), fun j hj hn => ?_⟩
    rcases Nat.lt_or_ge j (i + 1) with z | z
    · rw [hf j (by omega) hn, Bool.true_or]
    · obtain rfl : j = i + 1 := by omega
      rw [decide_eq_true hn, Bool.or_true]
theorem walk_right {cs ws : List Int} (C : W52.Calm cs) (inn : ∀ w ∈ ws, 0 ≤ w ∧ w < (cs.length : Nat)) (near : ∀ i, i + 1 < ws.length → -1 ≤ ws.getD (i + 1) 0 - ws.getD i 0 ∧ ws.getD (i + 1) 0 - ws.getD i 0 ≤ 1) {b h : Nat} (h1 : 1 ≤ h) (hb : b + 2 * h ≤ ws.length)
    (hc : ∀ i, i < h → colZ cs (ws.getD (b + i) 0) = colZ cs (ws.getD (b + h + i) 0)) : ∀ i, i < h → ws.getD (b + i) 0 = ws.getD (b + h + i) 0 := fun i hi => by
  have at_ : ∀ j, j < ws.length → 0 ≤ ws.getD j 0 ∧ ws.getD j 0 < (cs.length : Nat) := fun j hj => by
    rw [List.getD_eq_getElem?_getD, List.getElem?_eq_getElem hj]
    exact inn _ (List.getElem_mem hj)
  obtain ⟨f, r, hf⟩ := walk_pair (n := (cs.length : Nat)) inn near hb hc (h - 1) (by omega)
  have n1 := near (b + (h - 1)) (by omega)
  rw [show b + (h - 1) + 1 = b + h by omega] at n1
  have a1 := at_ b (by omega)
  have a2 := at_ (b + h) (by omega)
  have := calm (near_of C) (norep_of C) a1.1 a1.2 a2.1 a2.2 (hc 0 (by omega)) r (by omega) (by omega)
  rcases Decidable.em (ws.getD (b + i) 0 = ws.getD (b + h + i) 0) with z | z
  · exact z
  · rw [hf i (by omega) z] at this
    cases this
theorem cut_getD (ws : List Int) (b h i : Nat) (hi : i < h) : ((ws.drop b).take h)[i]? = ws[b + i]? := by
  rw [List.getElem?_take_of_lt hi, List.getElem?_drop]
/-- stretches that look alike are alike -/
theorem cut_right {cs ws : List Int} (C : W52.Calm cs) (inn : ∀ w ∈ ws, 0 ≤ w ∧ w < (cs.length : Nat)) (near : ∀ i, i + 1 < ws.length → -1 ≤ ws.getD (i + 1) 0 - ws.getD i 0 ∧ ws.getD (i + 1) 0 - ws.getD i 0 ≤ 1) {b h : Nat} (h1 : 1 ≤ h) (hb : b + 2 * h ≤ ws.length)
    (hc : ((ws.map (colZ cs)).drop b).take h = ((ws.map (colZ cs)).drop (b + h)).take h) : (ws.drop b).take h = (ws.drop (b + h)).take h := by
  have hw := walk_right C inn near h1 hb fun i hi => by
    have := congrArg (·[i]?) hc
    rw [cut_getD _ _ _ _ hi, cut_getD _ _ _ _ hi, List.getElem?_map, List.getElem?_map, List.getElem?_eq_getElem (show b + i < ws.length by omega), List.getElem?_eq_getElem (show b + h + i < ws.length by omega)] at this
    rw [List.getD_eq_getElem?_getD, List.getD_eq_getElem?_getD, List.getElem?_eq_getElem (show b + i < ws.length by omega), List.getElem?_eq_getElem (show b + h + i < ws.length by omega)]
    exact Option.some.inj this
  refine List.ext_getElem? fun i => ?_
  by_cases hi : i < h
  · rw [cut_getD _ _ _ _ hi, cut_getD _ _ _ _ hi]
    have := hw i hi
    rw [List.getD_eq_getElem?_getD, List.getD_eq_getElem?_getD, List.getElem?_eq_getElem (show b + i < ws.length by omega), List.getElem?_eq_getElem (show b + h + i < ws.length by omega)] at this
    rw [List.getElem?_eq_getElem (show b + i < ws.length by omega), List.getElem?_eq_getElem (show b + h + i < ws.length by omega)]
    exact congrArg some this
  · rw [List.getElem?_eq_none (by rw [List.length_take]; omega), List.getElem?_eq_none (by rw [List.length_take]; omega)]
end W50
end S_Vu
section S_Tv
namespace W51
open W50
def stepsZ : List Int → Bool
  | x :: y :: r => decide ((x - y).natAbs ≤ 1) && stepsZ (y :: r)
  | _ => true
/-- zs is a walk on a line of n places -/
def walkB (n : Nat) (zs : List Int) : Bool := decide (1 ≤ zs.length) && ((zs.all fun z => decide (0 ≤ z) && decide (z < (n : Int))) && stepsZ zs)
/-- twice the same -/
def repB (zs : List Int) : Bool := decide (0 < zs.length / 2) && (decide (zs.length % 2 = 0) && decide (zs.take (zs.length / 2) = zs.drop (zs.length / 2)))
theorem rep4 (a b c d : Int) : repB [a, b, c, d] = (decide (a = c) && decide (b = d)) := by simp [repB]
/-- zs shows that the colours ws stray -/
def strayB (ws zs : List Int) : Bool := walkB ws.length zs && (repB (zs.map (colZ ws)) && !repB zs)
theorem stepsZ_at : ∀ {zs : List Int}, stepsZ zs = true → ∀ i, i + 1 < zs.length → -1 ≤ zs.getD (i + 1) 0 - zs.getD i 0 ∧ zs.getD (i + 1) 0 - zs.getD i 0 ≤ 1
  | [], _, i, h => by simp at h
  | [_], _, i, h => by simp at h
  | x :: y :: r, hs, 0, _ => by
    unfold stepsZ at hs
    have := of_decide_eq_true (Bool.and_eq_true_iff.mp hs).1
    show -1 ≤ y - x ∧ y - x ≤ 1
    omega
  | x :: y :: r, hs, i + 1, h => by
    unfold stepsZ at hs
    exact stepsZ_at (zs := y :: r) (Bool.and_eq_true_iff.mp hs).2 i (by simpa using h)
theorem stepsZ_of : ∀ {zs : List Int}, (∀ i, i + 1 < zs.length → -1 ≤ zs.getD (i + 1) 0 - zs.getD i 0 ∧ zs.getD (i + 1) 0 - zs.getD i 0 ≤ 1) → stepsZ zs = true
  | [], _ => rfl
  | [_], _ => rfl
  | x :: y :: r, h => by
    unfold stepsZ
    have h0 := h 0 (by simp)
    have h0 : -1 ≤ y - x ∧ y - x ≤ 1 := h0
    rw [Bool.and_eq_true_iff]
    exact ⟨decide_eq_true (by omega), stepsZ_of (zs := y :: r) fun i hi => h (i + 1) (by simpa using hi)⟩
/-- what the line's own search tells -/
def StrayW (ws : List Int) : Option (List Int) → Prop
  | none => W52.Calm ws
  | some wk => (∃ b h, W48.Rep ws b h ∧ wk = (List.range (2 * h)).map fun i : Nat => ((b + i : Nat) : Int)) ∨ (∃ i, i + 2 < ws.length ∧ ws.getD i 0 = ws.getD (i + 2) 0 ∧ wk = [(i : Int) + 1, i, (i : Int) + 1, (i : Int) + 2])
theorem rg_at {b n i : Nat} (h : i < n) : ((List.range n).map fun i : Nat => ((b + i : Nat) : Int))[i]? = some ((b + i : Nat) : Int) := by
  rw [List.getElem?_map, List.getElem?_range h]; rfl
theorem rg_getD {b n i : Nat} (h : i < n) : ((List.range n).map fun i : Nat => ((b + i : Nat) : Int)).getD i 0 = ((b + i : Nat) : Int) := by
  rw [List.getD_eq_getElem?_getD, rg_at h]; rfl
theorem stray_of {ws : List Int} {wk : List Int} (h : StrayW ws (some wk)) : strayB ws wk = true := by
  rcases h with ⟨b, h, ⟨h1, h2, h3⟩, rfl⟩ | ⟨i, hi, he, rfl⟩
  · have hl : ((List.range (2 * h)).map fun i : Nat => ((b + i : Nat) : Int)).length = 2 * h := by rw [List.length_map, List.length_range]
    have half : 2 * h / 2 = h := by omega
    unfold strayB
    rw [Bool.and_eq_true_iff, Bool.and_eq_true_iff]
    refine ⟨?_, ?_, ?_⟩
    · unfold walkB
      rw [hl, Bool.and_eq_true_iff, Bool.and_eq_true_iff]
      refine ⟨decide_eq_true (by omega), List.all_eq_true.mpr fun z hz => ?_, stepsZ_of fun i hi => ?_⟩
      · obtain ⟨j, hj, rfl⟩ := List.mem_map.mp hz
        have := List.mem_range.mp hj
        rw [decide_eq_true (by omega), decide_eq_true (by omega)]
        rfl
      · rw [hl] at hi
        rw [rg_getD (by omega), rg_getD (by omega)]
        omega
    · unfold repB
      rw [List.length_map, hl, half, Bool.and_eq_true_iff, Bool.and_eq_true_iff]
      refine ⟨decide_eq_true (by omega), decide_eq_true (by omega), decide_eq_true (List.ext_getElem? fun i => ?_)⟩
      by_cases q : i < h
      · have em : ∀ j, j < 2 * h → (((List.range (2 * h)).map fun i : Nat => ((b + i : Nat) : Int)).map (colZ ws))[j]? = some (colZ ws ((b + j : Nat) : Int)) := fun j hj => by
          rw [List.getElem?_map, rg_at hj]; rfl
        rw [List.getElem?_take_of_lt q, List.getElem?_drop, em i (by omega), em (h + i) (by omega)]
        have := h3 i q
        unfold W48.M at this
        unfold colZ
        rw [Int.toNat_natCast, Int.toNat_natCast, ← this]
        congr 2
        omega
      · rw [List.getElem?_eq_none (by rw [List.length_take, List.length_map, hl]; omega), List.getElem?_eq_none (by rw [List.length_drop, List.length_map, hl]; omega)]
    · unfold repB
      have hne : decide (((List.range (2 * h)).map fun i : Nat => ((b + i : Nat) : Int)).take h = ((List.range (2 * h)).map fun i : Nat => ((b + i : Nat) : Int)).drop h) = false := decide_eq_false fun z => by
        have := congrArg (·[0]?) z
        rw [List.getElem?_take_of_lt (by omega), List.getElem?_drop, rg_at (by omega), rg_at (by omega)] at this
        have := Option.some.inj this
        omega
      rw [hl, half, hne, Bool.and_false, Bool.and_false]
      rfl
  · unfold strayB walkB
    have hc : colZ ws (i : Int) = colZ ws ((i : Int) + 2) := by
      unfold colZ
      rw [show ((i : Int)).toNat = i by omega, show ((i : Int) + 2).toNat = i + 2 by omega, he]
    rw [Bool.and_eq_true_iff, Bool.and_eq_true_iff, Bool.and_eq_true_iff, Bool.and_eq_true_iff]
    refine ⟨⟨rfl, List.all_eq_true.mpr fun z hz => ?_, ?_⟩, ?_, ?_⟩
    · simp only [List.mem_cons, List.not_mem_nil, or_false] at hz
      rw [Bool.and_eq_true_iff]
      rcases hz with rfl | rfl | rfl | rfl <;> exact ⟨decide_eq_true (by omega), decide_eq_true (by omega)⟩
    · show (decide _ && (decide _ && (decide _ && true))) = true
      rw [decide_eq_true (by omega), decide_eq_true (by omega), decide_eq_true (by omega)]
      rfl
    · show repB [colZ ws ((i : Int) + 1), colZ ws (i : Int), colZ ws ((i : Int) + 1), colZ ws ((i : Int) + 2)] = true
      rw [rep4, hc, decide_eq_true rfl, decide_eq_true rfl]
      rfl
    · rw [rep4, decide_eq_false (p := (i : Int) = (i : Int) + 2) (by omega), Bool.and_false]
      rfl
/-- a walk that shows it can't be over calm colours -/
theorem calm_no {ws zs : List Int} (C : W52.Calm ws) : strayB ws zs = false := by
  cases hs : strayB ws zs with
  | false => rfl
  | true =>
    exfalso
    unfold strayB at hs
    obtain ⟨hw, hr⟩ := Bool.and_eq_true_iff.mp hs
    obtain ⟨r1, r2⟩ := Bool.and_eq_true_iff.mp hr
    unfold walkB at hw
    obtain ⟨w1, w2⟩ := Bool.and_eq_true_iff.mp hw
    obtain ⟨w2, w3⟩ := Bool.and_eq_true_iff.mp w2
    unfold repB at r1
    rw [List.length_map] at r1
    obtain ⟨p1, p2⟩ := Bool.and_eq_true_iff.mp r1
    obtain ⟨p2, p3⟩ := Bool.and_eq_true_iff.mp p2
    have p1 := of_decide_eq_true p1
    have p2 := of_decide_eq_true p2
    have p3 := of_decide_eq_true p3
    have hh : zs.take (zs.length / 2) = zs.drop (zs.length / 2) := by
      have := cut_right C (ws := zs) (b := 0) (h := zs.length / 2) (fun w hw => by
        have := List.all_eq_true.mp w2 w hw
        obtain ⟨a1, a2⟩ := Bool.and_eq_true_iff.mp this
        exact ⟨of_decide_eq_true a1, of_decide_eq_true a2⟩) (stepsZ_at w3) p1 (by omega) (by
        rw [List.drop_zero, Nat.zero_add, p3, List.take_of_length_le]
        rw [List.length_drop, List.length_map]
        omega)
      rw [List.drop_zero, Nat.zero_add] at this
      rw [this, List.take_of_length_le]
      rw [List.length_drop]
      omega
    unfold repB at r2
    rw [decide_eq_true p1, decide_eq_true p2, decide_eq_true hh] at r2
    cases r2
theorem rep_stray {ws : List Int} (h : ¬ W52.Calm ws) : Strayed ws := by
  have key : ∀ {b h : Nat}, W48.Rep ws b h → Strayed ws := fun {b h} ⟨h1, h2, h3⟩ => by
    have cc : ∀ i, i < h → colZ ws ((b + i : Nat) : Int) = colZ ws ((b + h + i : Nat) : Int) := fun i hi => by
      have := h3 i hi
      unfold W48.M at this
      unfold colZ
      rw [Int.toNat_natCast, Int.toNat_natCast, ← this]
      congr 1
      omega
    refine ⟨b, b + h, by omega, by omega, by have := cc 0 (by omega); simpa using this, ((b + (h - 1) : Nat) : Int), ((b + h + (h - 1) : Nat) : Int), ?_, by omega, by omega⟩
    have go : ∀ i, i < h → Rch (colZ ws) ws.length (b : Nat) ((b + h : Nat) : Int) ((b + i : Nat) : Int) ((b + h + i : Nat) : Int) true := fun i => by
      induction i with
      | zero =>
        intro _
        have := Rch.start (c := colZ ws) (n := ws.length) (one := ((b : Nat) : Int)) (other := ((b + h : Nat) : Int))
        rw [decide_eq_true (by omega)] at this
        exact this
      | succ i ih =>
        intro hi
        have := (ih (by omega)).step (x' := ((b + (i + 1) : Nat) : Int)) (y' := ((b + h + (i + 1) : Nat) : Int)) (by omega) (by omega) (by omega) (by omega) (by omega) (by omega) (by omega) (by omega) (cc (i + 1) hi)
        rwa [Bool.true_or] at this
    exact go (h - 1) (by omega)
  by_cases hr : ∃ b h, W48.Rep ws b h
  · obtain ⟨b, hh, hr⟩ := hr
    exact key hr
  · have : ∃ i, i + 2 < ws.length ∧ ws.getD i 0 = ws.getD (i + 2) 0 := by
      apply Classical.byContradiction
      intro hn
      exact h ⟨fun b hh hq => hr ⟨b, hh, hq⟩, fun i hi z => hn ⟨i, hi, z⟩⟩
    obtain ⟨i, hi, he⟩ := this
    refine ⟨i + 1, i + 1, by omega, by omega, rfl, (i : Int), (i : Int) + 2, ?_, by omega, by omega⟩
    have st := Rch.start (c := colZ ws) (n := ws.length) (one := ((i + 1 : Nat) : Int)) (other := ((i + 1 : Nat) : Int))
    have := st.step (x' := (i : Int)) (y' := (i : Int) + 2) (by omega) (by omega) (by omega) (by omega) (by omega) (by omega) (by omega) (by omega) (by
      unfold colZ
      rw [show ((i : Int)).toNat = i by omega, show ((i : Int) + 2).toNat = i + 2 by omega, he])
    have e : (decide (((i + 1 : Nat) : Int) ≠ ((i + 1 : Nat) : Int)) || decide ((i : Int) ≠ (i : Int) + 2)) = true := by
      rw [decide_eq_true (p := (i : Int) ≠ (i : Int) + 2) (by omega), Bool.or_true]
    rwa [e] at this
theorem strayed_iff {ws : List Int} : Strayed ws ↔ ¬ W52.Calm ws := ⟨fun h C => not_strayed C h, rep_stray⟩
end W51
end S_Tv
section S_Xv
/-! steps of raw terms, by name -/
namespace Go
open PySem PySem.Spec PyProof.Rows L2
theorem cons_any {te : TE} {tr : TA} {σ : L2.St} {H : Hp} {Q : List V → Hp → Prop} (h : te σ H fun v H1 => tr σ H1 fun vs H2 => Q (v :: vs) H2) : tCons te tr σ H Q := h
theorem cons_c {v : V} {tr : TA} {σ : L2.St} {H : Hp} {Q : List V → Hp → Prop} (h : tr σ H fun vs H2 => Q (v :: vs) H2) : tCons (tC v) tr σ H Q := h
theorem asg_go {te : TE} {tz : TS} {i : Nat} {D : Ends} {σ : L2.St} {H : Hp} (h : te σ H fun v H1 => tz D (σ.set i (some v)) H1) : tSeq (tAsg te (gName i)) tz D σ H := h
theorem asg_last {te : TE} {i : Nat} {D : Ends} {σ : L2.St} {H : Hp} (h : te σ H fun v H1 => D.nx (σ.set i (some v)) H1) : tAsg te (gName i) D σ H := h
theorem q_asg1 {te : TE} {g : TG} {tz : TS} {D : Ends} {σ : L2.St} {H : Hp} (h : te σ H fun x H1 => g x σ H1 fun σ1 H2 => tz D σ1 H2) : tSeq (tAsg te g) tz D σ H := h
theorem op_go {r : R2} {ta tb : TE} {σ : L2.St} {H : Hp} {Q : VK} (h : ta σ H fun x H1 => tb σ H1 fun y H2 => r x y H2 Q) : tOp r ta tb σ H Q := h
theorem tup_go {ta : TA} {σ : L2.St} {H : Hp} {Q : VK} (h : ta σ H fun xs H1 => xs.length ≤ sizeLine ∧ ∀ p, H1 p = none → Q (.ref p) (upd H1 p (.tup xs))) : tTup ta σ H Q := h
theorem lst_go {ta : TA} {σ : L2.St} {H : Hp} {Q : VK} (h : ta σ H fun xs H1 => xs.length ≤ sizeLine ∧ ∀ p, H1 p = none → Q (.ref p) (upd H1 p (.lst xs))) : tLst ta σ H Q := h
theorem ret_go {te : TE} {D : Ends} {σ : L2.St} {H : Hp} (h : te σ H D.rt) : tRet te D σ H := h
theorem drop_go {te : TE} {tz : TS} {D : Ends} {σ : L2.St} {H : Hp} (h : te σ H fun _ H1 => tz D σ H1) : tSeq (tDrop te) tz D σ H := h
theorem call_go {sp : Sp} {dvs vs : List V} {E : XK} {ta : TA} {σ : L2.St} {H : Hp} {Q : VK} (h : Evl.EvA ta σ H vs) (k : ∀ H1, Evl.Ex H H1 → sp (vs ++ dvs) H1 Q E) : tCall sp dvs E ta σ H Q := h H (Evl.Ex.refl H) _ k
theorem call_raw {sp : Sp} {dvs : List V} {E : XK} {ta : TA} {σ : L2.St} {H : Hp} {Q : VK} (h : ta σ H fun vs H1 => sp (vs ++ dvs) H1 Q E) : tCall sp dvs E ta σ H Q := h
theorem cb_go {r : List V → Hp → VK → Prop} {ta : TA} {σ : L2.St} {H : Hp} {Q : VK} (h : ta σ H fun vs H1 => r vs H1 Q) : tCB r ta σ H Q := h
theorem par_go {i j : Nat} {ta : TA} {tz : TS} {D : Ends} {σ : L2.St} {H : Hp} (h : ta σ H fun vs H1 => ∃ v w, vs = [v, w] ∧ tz D ((σ.set i (some v)).set j (some w)) H1) : tSeq (tPar i j ta) tz D σ H := h
/-- an expression with a value, in a raw place -/
theorem go {te : TE} {σ : L2.St} {H : Hp} {v : V} {Q : VK} (h : Evl.Ev te σ H v) (k : ∀ H1, Evl.Ex H H1 → Q v H1) : te σ H Q := h H (Evl.Ex.refl H) _ k
theorem goT {t : TT} {σ : L2.St} {H : Hp} {b : Bool} {Q : Bool → Hp → Prop} (h : Evl.EvT t σ H b) (k : ∀ H1, Evl.Ex H H1 → Q b H1) : t σ H Q := h H (Evl.Ex.refl H) _ k
theorem goA {ta : TA} {σ : L2.St} {H : Hp} {vs : List V} {Q : List V → Hp → Prop} (h : Evl.EvA ta σ H vs) (k : ∀ H1, Evl.Ex H H1 → Q vs H1) : ta σ H Q := h H (Evl.Ex.refl H) _ k
end Go
end S_Xv
section S_Tw
namespace P51
open PySem PySem.Spec PyProof.Rows L2 Tl Hk EnL Go W50 W51
theorem scIsRep : FnScope ["row", "half", "rest"] ["row"] (defScope sIsRep) := ⟨rfl, rfl, rfl, by decide +kernel, rfl, by decide +kernel, by decide +kernel⟩
section
open Evl
variable {K : PySem.W.Frag} {σ : L2.St} {H : Hp} {ta tb te : TE}
theorem ev_eqTp {ns ms : List Int} (ha : EvTp K ta σ H (ns.map V.int)) (hb : EvTp K tb σ H (ms.map V.int)) : Ev (tOp (rEqD K) ta tb) σ H (.bl (decide (ns = ms))) := fun H1 e Q q =>
  ha H1 e _ fun p H2 e2 h2 => hb H2 (e.trans e2) _ fun p3 H3 e3 h3 => by
    refine ⟨.tuple (dz ns), .tuple (dz ms), .tup (ex_t e3 h2) (dp_z ns), .tup h3 (dp_z ms), z_shT ns, z_shT ms, ?_⟩
    have : PyData.eqv (.tuple (dz ns)) (.tuple (dz ms)) = decide (ns = ms) := eqv_zD ns ms
    rw [this]
    exact q H3 (e2.trans e3)
theorem tp_slA {tl th : TO} {a : Addr} {xs : List V} {lo hi : Option Int} (h : Ev te σ H (.ref a)) (h1 : EvO tl σ H lo) (h2 : EvO th σ H hi) (hs : SqT K H a xs) : EvTp K (tSl (rSlA K) te tl th) σ H (cutV xs lo hi) := fun H1 e Q q =>
  h H1 e _ fun H2 e2 => h1 H2 (e.trans e2) _ fun H3 e3 => h2 H3 ((e.trans e2).trans e3) _ fun H4 e4 => by
    have hh := ex_t (((e.trans e2).trans e3).trans e4) hs
    refine ⟨a, xs, rfl, hh, fun hw => q a H4 ((e2.trans e3).trans e4) ?_, fun _ p hp => q p _ (((e2.trans e3).trans e4).trans (Ex.new hp)) (st_of upd_same)⟩
    have e0 : cutV xs lo hi = xs := by
      unfold cutV
      rw [hw.1, hw.2, List.drop_zero, Nat.sub_zero, List.take_length]
    rw [e0]
    exact hh
end
def spRep (K : PySem.W.Frag) : Sp := fun vs H Q _ => ∃ (a : Addr) (zs : List Int), vs = [.ref a] ∧ SqS K H a (zs.map V.int) ∧ zs.length ≤ 4000 ∧ ∀ H1, Evl.Ex H H1 → Q (.bl (repB zs)) H1
section
variable {P : Program} {w : World} {K : PySem.W.Frag} {mg : Str → Option Value} {base : Heap}
theorem ok_isRep {f : Addr} {fd : FuncData} {k : Nat} (F : Fun K "is_repeat" "is_repeat" sIsRep f fd) (mlen : mg "len" = none) (mdiv : mg "divmod" = none) : FnOk P w K mg base CX0 (k + 1) f fd ["row"] (spRep K) := by
  refine F.ok scIsRep (fun vs H Q E h => ?_) (fun cdv A outer s H vs Q E hr h => ?_)
  · obtain ⟨a, zs, rfl, _⟩ := h
    rfl
  · obtain ⟨a, zs, rfl, hS, hl, q⟩ := h
    have nd := scIsRep.nd
    have hlen : (zs.map V.int).length = zs.length := List.length_map _
    have tk : cutV (zs.map V.int) none (some ((zs.length / 2 : Nat) : Int)) = (zs.take (zs.length / 2)).map V.int := by rw [cutTo', List.map_take]
    have dr : cutV (zs.map V.int) (some ((zs.length / 2 : Nat) : Int)) none = (zs.drop (zs.length / 2)).map V.int := by rw [cutFrom, List.map_drop]
    have fin : ∀ {b : Bool}, b = decide (zs.take (zs.length / 2) = zs.drop (zs.length / 2)) → (decide ((0 : Int) < ((zs.length / 2 : Nat) : Int)) && (decide (V.int ((zs.length % 2 : Nat) : Int) = V.int 0) && b)) = repB zs := fun {b} e => by
      unfold repB
      rw [e]
      congr 1
      · exact decide_eq_decide.mpr ⟨fun z => by omega, fun z => by omega⟩
      · congr 1
        exact decide_eq_decide.mpr ⟨fun z => by have := V.int.inj z; omega, fun z => by rw [z]; rfl⟩
    rcases hS with hS | hS
    · refine ⟨_, pss_cons (ps_asg (pe_callB call_divmod (by rfl) mdiv (by decide +kernel) (pa_cons (pe_callB call_len_seq (by rfl) mlen PySem.boot_len (pa_cons (pv 0) (pa_nil))) (pa_cons (pe_int) (pa_nil)))) (pg_tup (by rfl) (pgs_cons (pg_name (i := 1) nd rfl (Or.inl rfl)) (pgs_cons (pg_name (i := 2) nd rfl (Or.inl rfl)) pgs_nil)))) (pss_one (ps_ret (pe_and (pe_cmpR op_gt (pv 1) (pe_int) (nomark _)) (pe_and (pe_cmpR op_eq (pv 2) (pe_int) (nomark _)) (pe_one (pe_cmpR (op_eqD hr.units) (pe_slice sl_list (pv 0) po_none (po_some (pv 1))) (pe_slice sl_list (pv 0) (po_some (pv 1)) po_none) (nomark _))))))), ?_⟩
      refine q_asg1 (goA (vs := [.int (zs.length : Int), .int 2]) (Evl.ea_cons (Evl.ev_is (ev_lenS (Evl.ev_var rfl) (.inl hS)) (by rw [hlen])) (Evl.ea_cons Evl.ev_c Evl.ea_nil)) fun H1 e1 => ⟨(zs.length : Int), 2, rfl, by unfold CDiv; omega, fun p hp => ⟨p, _, rfl, Evl.st_of upd_same, rfl, _, _, rfl, _, _, rfl, rfl, ?_⟩⟩)
      have e2 := e1.trans (Evl.Ex.new (o := .tup [.int ((zs.length : Int) / 2), .int ((zs.length : Int) % 2)]) hp)
      dsimp only [List.set_cons_zero, List.set_cons_succ]
      rw [show (zs.length : Int) / 2 = ((zs.length / 2 : Nat) : Int) by omega, show (zs.length : Int) % 2 = ((zs.length % 2 : Nat) : Int) by omega] at *
      refine Evl.s_ret (Evl.ev_is (Evl.ev_andV (Evl.ev_op (Evl.ev_var rfl) Evl.ev_c Evl.rv_I0) fun _ => Evl.ev_andV (Evl.ev_op (Evl.ev_var rfl) Evl.ev_c (Evl.rv_eq rfl)) fun _ => ev_eqLL (ns := zs.take (zs.length / 2)) (ms := zs.drop (zs.length / 2)) ?_ ?_) (congrArg V.bl (fin rfl))) fun H3 e3 => q H3 (e2.trans e3)
      · rw [← tk]
        exact Evl.el_sl (Evl.ev_var rfl) Evl.eo_none (Evl.eo_some (Evl.ev_var rfl)) (Evl.ex_l e2 hS)
      · rw [← dr]
        exact Evl.el_sl (Evl.ev_var rfl) (Evl.eo_some (Evl.ev_var rfl)) Evl.eo_none (Evl.ex_l e2 hS)
    · refine ⟨_, pss_cons (ps_asg (pe_callB call_divmod (by rfl) mdiv (by decide +kernel) (pa_cons (pe_callB call_len_seq (by rfl) mlen PySem.boot_len (pa_cons (pv 0) (pa_nil))) (pa_cons (pe_int) (pa_nil)))) (pg_tup (by rfl) (pgs_cons (pg_name (i := 1) nd rfl (Or.inl rfl)) (pgs_cons (pg_name (i := 2) nd rfl (Or.inl rfl)) pgs_nil)))) (pss_one (ps_ret (pe_and (pe_cmpR op_gt (pv 1) (pe_int) (nomark _)) (pe_and (pe_cmpR op_eq (pv 2) (pe_int) (nomark _)) (pe_one (pe_cmpR (op_eqD hr.units) (pe_slice sl_tupA (pv 0) po_none (po_some (pv 1))) (pe_slice sl_tupA (pv 0) (po_some (pv 1)) po_none) (nomark _))))))), ?_⟩
      refine q_asg1 (goA (vs := [.int (zs.length : Int), .int 2]) (Evl.ea_cons (Evl.ev_is (ev_lenS (Evl.ev_var rfl) (.inr hS)) (by rw [hlen])) (Evl.ea_cons Evl.ev_c Evl.ea_nil)) fun H1 e1 => ⟨(zs.length : Int), 2, rfl, by unfold CDiv; omega, fun p hp => ⟨p, _, rfl, Evl.st_of upd_same, rfl, _, _, rfl, _, _, rfl, rfl, ?_⟩⟩)
      have e2 := e1.trans (Evl.Ex.new (o := .tup [.int ((zs.length : Int) / 2), .int ((zs.length : Int) % 2)]) hp)
      dsimp only [List.set_cons_zero, List.set_cons_succ]
      rw [show (zs.length : Int) / 2 = ((zs.length / 2 : Nat) : Int) by omega, show (zs.length : Int) % 2 = ((zs.length % 2 : Nat) : Int) by omega] at *
      refine Evl.s_ret (Evl.ev_is (Evl.ev_andV (Evl.ev_op (Evl.ev_var rfl) Evl.ev_c Evl.rv_I0) fun _ => Evl.ev_andV (Evl.ev_op (Evl.ev_var rfl) Evl.ev_c (Evl.rv_eq rfl)) fun _ => ev_eqTp (ns := zs.take (zs.length / 2)) (ms := zs.drop (zs.length / 2)) ?_ ?_) (congrArg V.bl (fin rfl))) fun H3 e3 => q H3 (e2.trans e3)
      · rw [← tk]
        exact tp_slA (Evl.ev_var rfl) Evl.eo_none (Evl.eo_some (Evl.ev_var rfl)) (Evl.ex_t e2 hS)
      · rw [← dr]
        exact tp_slA (Evl.ev_var rfl) (Evl.eo_some (Evl.ev_var rfl)) Evl.eo_none (Evl.ex_t e2 hS)
end
end P51
end S_Tw
section S_Tx
namespace P51
open PySem PySem.Spec PyProof.Rows L2 Tl Hk EnL Go W50 W51
theorem ints_ty {K : PySem.W.Frag} {H : Hp} {ws : List Int} : ∀ v ∈ ws.map V.int, ∃ n, Ty7 K H v n := fun v hv => by
  obtain ⟨z, _, rfl⟩ := List.mem_map.mp hv
  exact ⟨_, .int z⟩
theorem ints_all {ws : List Int} (h : ∀ w ∈ ws, 0 ≤ w) : ((ws.map V.int).all fun v => wi v (.int 0) .non) = true := List.all_eq_true.mpr fun v hv => by
  obtain ⟨z, hz, rfl⟩ := List.mem_map.mp hv
  show (decide ((0 : Int) ≤ z) && true) = true
  rw [decide_eq_true (h z hz)] <;> rfl
theorem row_s {K : PySem.W.Frag} {H : Hp} {a : Addr} {ws : List Int} (h : SqS K H a (ws.map V.int)) (hl : ws.length ≤ 4000) (hp : ∀ w ∈ ws, 0 ≤ w) : RowR K H (.int 0) .non (.ref a) true := by
  rw [← ints_all hp]
  rcases h with h | h
  · exact .lst h (by rw [List.length_map]; exact hl) ints_ty
  · exact .tup h (by rw [List.length_map]; exact hl) ints_ty
/-- colours of a line, at a -/
structure LineAt (K : PySem.W.Frag) (H : Hp) (a : Addr) (ws : List Int) : Prop where
  at_ : SqS K H a (ws.map V.int)
  len : ws.length ≤ 400
  pos : ∀ w ∈ ws, 0 ≤ w
theorem LineAt.ex {K : PySem.W.Frag} {H H' : Hp} {a : Addr} {ws : List Int} (h : LineAt K H a ws) (e : Evl.Ex H H') : LineAt K H' a ws := ⟨h.at_.ex e, h.len, h.pos⟩
def spStrayW (K : PySem.W.Frag) : Sp := fun vs H Q _ => ∃ (a : Addr) (ws : List Int), vs = [.ref a] ∧ LineAt K H a ws ∧ (W52.Calm ws → ∀ H1, Evl.Ex H H1 → Q .non H1) ∧
  ∀ wk p H1, StrayW ws (some wk) → wk.length ≤ 800 → H p = none → Evl.Ex H H1 → H1 p = some (.lst (wk.map V.int)) → Q (.ref p) H1
/-- a Calm -/
def CalmIns (CK : Addr) (H : Hp) (c : Addr) : Prop := ∃ dx fs, H c = some (.ins CK dx fs) ∧ fs.lookup ("word" : Str) = some (.str "calm")
def spJudged (K : PySem.W.Frag) (CK CY : Addr) : Sp := fun vs H Q _ => ∃ (a : Addr) (ws : List Int), vs = [.ref a] ∧ LineAt K H a ws ∧ (W52.Calm ws → ∀ c H1, Evl.Ex H H1 → H c = none → CalmIns CK H1 c → Q (.ref c) H1) ∧
  ∀ wk x H1, StrayW ws (some wk) → wk.length ≤ 800 → H x = none → Evl.Ex H H1 → StrayAt K CY H1 x (.tuple (wk.map PyData.int)) → Q (.ref x) H1
section
open Evl
variable {K : PySem.W.Frag} {σ : L2.St} {H : Hp} {ta tb : TE}
theorem el_rg2 {a b : Int} (ha : Ev ta σ H (.int a)) (hb : Ev tb σ H (.int b)) (h : RgOk a b) : EvL (tLstRg (tRg2 ta tb)) σ H (rgV a b) := fun H1 e Q q =>
  ha H1 e _ fun H2 e2 => hb H2 (e.trans e2) _ fun H3 e3 => ⟨a, b, rfl, rfl, h, fun p hp => q p _ (fresh_back (e2.trans e3) hp) ((e2.trans e3).trans (Ex.new hp)) upd_same⟩
end
theorem fix_ints : ∀ zs : List Int, fixD (.list (zs.map PyData.int)) = .tuple (zs.map PyData.int) := fun zs => by
  rw [fixD, fixDs_map, List.map_map]
  congr 1
theorem fixable_ints {zs : List Int} (h : zs.length ≤ 4000) : Fixable 1 (.list (zs.map PyData.int)) := .inr ⟨_, .inl rfl, by rw [List.length_map]; exact h, fun e he => by
  obtain ⟨z, _, rfl⟩ := List.mem_map.mp he
  rfl⟩
section
variable {P : Program} {w : World} {K : PySem.W.Frag} {mg : Str → Option Value} {base : Heap}
theorem ok_strayWalk {f CW fF : Addr} {fd fdF : FuncData} {k : Nat} (F : Fun K "_stray_walk" "_stray_walk" sStrayWalk f fd)
    (FF : Fun K "first_repeat" "first_repeat" sFirst fF fdF) (GF : FnOk P w K mg base (L2.CX P w) k fF fdF ["word"] (spFirst K CW)) (bF : Binds K fdF ["word"] []) (gF : mg "first_repeat" = some (.ref fF))
    (mlen : mg "len" = none) (mrange : mg "range" = none) (mlist : mg "list" = none) : FnOk P w K mg base (L2.CX P w) (k + 1) f fd ["colours"] (spStrayW K) := by
  refine F.okX scStrayWalk (fun vs H Q E h => ?_) (fun cdv A outer s H vs Q E hr h => ?_)
  · obtain ⟨a, ws, rfl, _⟩ := h
    rfl
  · obtain ⟨a, ws, rfl, hC, qn, qy⟩ := h
    have nd := scStrayWalk.nd
    have lw : (ws.map V.int).length = ws.length := List.length_map _
    have hl := hC.len
    refine ⟨_, PSs.nox (pss_cons (ps_set (i := 1) nd rfl (.inl rfl) (pe_call GF hr (by rfl) gF FF.kp bF .nil passF (pa_cons (pv 0) (pa_nil)))) (pss_cons (ps_if (pt_cmpR op_notN (pv 1) (pe_non) (nomark _)) (pss_cons (ps_asg (pv 1) (pg_tup (by rfl) (pgs_cons (pg_name (i := 2) nd rfl (Or.inl rfl)) (pgs_cons (pg_name (i := 3) nd rfl (Or.inl rfl)) pgs_nil)))) (pss_one (ps_ret (pe_listRg rfl (by rfl) mlist (prg_2 (by rfl) mrange (pv 2) (pe_op op_add (pv 2) (pe_op op_mul (pe_int) (pv 3)))))))) (pss_nil)) (pss_cons (ps_for PassesOwn.never rfl (pi_range1 (by rfl) mrange (pa_cons (pe_op op_sub (pe_callB call_len_seq (by rfl) mlen PySem.boot_len (pa_cons (pv 0) (pa_nil))) (pe_int)) (pa_nil))) (pg_name (i := 4) nd rfl (Or.inl rfl)) (pss_one (ps_if (pt_cmpR op_eq (pe_ix ix_any2 (pv 0) (pv 4) (fun _ _ => rfl)) (pe_ix ix_any2 (pv 0) (pe_op op_add (pv 4) (pe_int)) (fun _ _ => rfl)) (nomark _)) (pss_one (ps_ret (pe_lst (pa_cons (pe_op op_add (pv 4) (pe_int)) (pa_cons (pv 4) (pa_cons (pe_op op_add (pv 4) (pe_int)) (pa_cons (pe_op op_add (pv 4) (pe_int)) (pa_nil)))))))) (pss_nil)))) (pss_one (ps_ret (pe_non)))))), ?_⟩
    refine asg_go ⟨.ref a, rfl, .ref a, true, rfl, row_s hC.at_ (by omega) hC.pos, fun _ => ⟨a, ws, rfl, hC.at_, by omega, fun r hr' v H1 e1 hv => ?_⟩, fun z => nomatch z⟩
    cases r with
    | some bh =>
      obtain ⟨b, h⟩ := bh
      obtain ⟨p, rfl, hp⟩ := hv
      have hrep := hr'.1
      have hb2 := hrep.2.1
      dsimp only [List.set_cons_zero, List.set_cons_succ]
      refine Evl.q_when (b := true) (Evl.et_test (Evl.ev_op (Evl.ev_var rfl) Evl.ev_c fun H2 _ Q' q' => ⟨rfl, q' H2 (Evl.Ex.refl _)⟩)) (fun _ H2 e2 => ?_) (fun z => nomatch z)
      refine q_asg1 ⟨.ref p, rfl, p, [.int (b : Int), .int (h : Int)], rfl, Evl.st_of (e2 _ _ hp), rfl, _, _, rfl, _, _, rfl, rfl, ?_⟩
      dsimp only [List.set_cons_zero, List.set_cons_succ]
      refine Evl.s_retL (xs := ((List.range (2 * h)).map fun i : Nat => ((b + i : Nat) : Int)).map V.int) ?_ fun u H3 hu e3 h3 => qy _ u H3 (.inl ⟨b, h, hrep, rfl⟩) (by rw [List.length_map, List.length_range]; omega) (Evl.fresh_back (e1.trans e2) hu) ((e1.trans e2).trans e3) h3
      have := el_rg2 (a := (b : Int)) (b := (b : Int) + 2 * (h : Int)) (ta := tVar 2) (tb := tOp (rI0 fun i j => V.int (i + j)) (tVar 2) (tOp (rI CMul fun i j => V.int (i * j)) (tC (.int 2)) (tVar 3))) (σ := [some (.ref a), some (.ref p), some (.int (b : Int)), some (.int (h : Int)), none]) (H := H2) (Evl.ev_var rfl) (Evl.ev_op (Evl.ev_var rfl) (Evl.ev_op Evl.ev_c (Evl.ev_var rfl) (Evl.rv_I (.inl ⟨by decide, by decide⟩))) Evl.rv_I0) (.of_le (by omega) (by omega) (by omega) (by omega))
      have e4 : rgV (b : Int) ((b : Int) + 2 * (h : Int)) = ((List.range (2 * h)).map fun i : Nat => ((b + i : Nat) : Int)).map V.int := by
        unfold rgV
        rw [show ((b : Int) + 2 * (h : Int) - (b : Int)).toNat = 2 * h by omega, List.map_map]
        refine List.map_congr_left fun i _ => ?_
        show V.int ((b : Int) + (i : Nat)) = V.int ((b + i : Nat) : Int)
        congr 1
      rw [e4] at this
      exact this
    | none =>
      obtain rfl : v = .non := hv
      have hno : ∀ b h, ¬ W48.Rep ws b h := hr'
      dsimp only [List.set_cons_zero, List.set_cons_succ]
      refine Evl.q_when (b := false) (Evl.et_test (Evl.ev_op (Evl.ev_var rfl) Evl.ev_c fun H2 _ Q' q' => ⟨rfl, q' H2 (Evl.Ex.refl _)⟩)) (fun z => nomatch z) fun _ H2 e2 => ?_
      refine q_forR1n (n := (ws.length : Int) - 2) (Evl.ea_cons (Evl.ev_is (Evl.ev_op (ev_lenS (Evl.ev_var rfl) (hC.at_.ex (e1.trans e2))) Evl.ev_c Evl.rv_I0) (by rw [lw])) Evl.ea_nil) (by omega)
        (fun i σ' H' => ∃ y, σ' = [some (.ref a), some .non, none, none, y] ∧ Evl.Ex H H' ∧ ∀ j < i, ws.getD j 0 ≠ ws.getD (j + 2) 0) (fun H3 e3 => ⟨none, rfl, (e1.trans e2).trans e3, fun j hj => absurd hj (Nat.not_lt_zero _)⟩) ?_ (fun σ' H' ⟨y, e0, e, hn⟩ => ?_)
      · rintro i σ' H' hi ⟨y, rfl, e, hn⟩
        have hi2 : i + 2 < ws.length := by omega
        have hSe := hC.at_.ex e
        dsimp only [List.set_cons_zero, List.set_cons_succ]
        refine Evl.s_when (b := decide (V.int (ws.getD i 0) = V.int (ws.getD (i + 2) 0))) (Evl.et_test (Evl.ev_op (Evl.ev_op (Evl.ev_var rfl) (Evl.ev_var rfl) (rv_ixB hSe (w_at (i := i) (by omega)))) (Evl.ev_op (Evl.ev_var rfl) (Evl.ev_op (Evl.ev_var rfl) Evl.ev_c Evl.rv_I0) (rv_ixB hSe (by rw [show (i : Int) + 2 = ((i + 2 : Nat) : Int) by omega]; exact w_at hi2))) (Evl.rv_eq rfl))) (fun hb H3 e3 => ?_) fun hb H3 e3 => ?_
        · refine Evl.s_retL (xs := [(i : Int) + 1, (i : Int), (i : Int) + 1, (i : Int) + 2].map V.int) (Evl.el_lst (Evl.ea_cons (Evl.ev_op (Evl.ev_var rfl) Evl.ev_c Evl.rv_I0) (Evl.ea_cons (Evl.ev_var rfl) (Evl.ea_cons (Evl.ev_op (Evl.ev_var rfl) Evl.ev_c Evl.rv_I0) (Evl.ea_cons (Evl.ev_op (Evl.ev_var rfl) Evl.ev_c Evl.rv_I0) Evl.ea_nil)))) (by show 4 ≤ 100000; decide)) fun u H4 hu e4 h4 =>
            qy _ u H4 (.inr ⟨i, hi2, V.int.inj (of_decide_eq_true hb), rfl⟩) (by show 4 ≤ 800; decide) (Evl.fresh_back (e.trans e3) hu) ((e.trans e3).trans e4) h4
        · refine ⟨some (.int (i : Int)), rfl, e.trans e3, fun j hj => ?_⟩
          by_cases z : j < i
          · exact hn j z
          · obtain rfl : j = i := by omega
            exact fun z => of_decide_eq_false hb (by rw [z])
      · subst e0
        exact Evl.s_ret Evl.ev_c fun H3 e3 => qn ⟨hno, fun i hi => hn i (by omega)⟩ H3 (e.trans e3)
theorem ok_judged {f fL fS fK fY CC CM CK CY : Addr} {fd fdL fdS fdK fdY : FuncData} {k : Nat} (F : Fun K "judged_line" "judged_line" sJudged f fd)
    (FL : Fun K "_want_line" "_want_line" sWantLine fL fdL) (GL : FnOk P w K mg base (L2.CX P w) (k + 1) fL fdL ["colours"] (spWantLine K CC CM)) (bL : Binds K fdL ["colours"] []) (gL : mg "_want_line" = some (.ref fL))
    (FS : Fun K "_stray_walk" "_stray_walk" sStrayWalk fS fdS) (GS : FnOk P w K mg base (L2.CX P w) (k + 1) fS fdS ["colours"] (spStrayW K)) (bS : Binds K fdS ["colours"] []) (gS : mg "_stray_walk" = some (.ref fS))
    (M : Mk K CK fK) (GK : FnOk P w K mg base CX0 k fK fdK ["self"] (spCalmI CK)) (bK : Binds K fdK ["self"] []) (gK : mg "Calm" = some (.ref CK))
    (M2 : Mk K CY fY) (GY : FnOk P w K mg base CX0 k fY fdY ["self", "walk"] (spStrayI K 1 CY)) (bY : Binds K fdY ["self", "walk"] []) (gY : mg "Stray" = some (.ref CY)) : FnOk P w K mg base (L2.CX P w) (k + 2) f fd ["colours"] (spJudged K CK CY) := by
  refine F.okX scJudged (fun vs H Q E h => ?_) (fun cdv A outer s H vs Q E hr h => ?_)
  · obtain ⟨a, ws, rfl, _⟩ := h
    rfl
  · obtain ⟨a, ws, rfl, hC, qn, qy⟩ := h
    have nd := scJudged.nd
    have hl := hC.len
    refine ⟨_, pss_cons (ps_expr (pe_callS GL hr (by rfl) gL FL.kp bL (fun σ => passAt (takes_of rfl rfl rfl rfl) σ) (pa_cons (pv 0) (pa_nil)))) (PSs.nox (pss_cons (ps_set (i := 1) nd rfl (.inl rfl) (pe_call GS hr (by rfl) gS FS.kp bS .nil passF (pa_cons (pv 0) (pa_nil)))) (pss_one (ps_ret (pe_ifExp (pt_cmpR op_isN (pv 1) (pe_non) (nomark _)) (pe_make0 M GK hr (by rfl) gK bK .nil pass0) (pe_make M2 GY hr (by rfl) gY bY .nil pass0 (pa_cons (pv 1) (pa_nil)))))))), ?_⟩
    refine ⟨.ref a, rfl, .ref a, true, rfl, row_s hC.at_ (by omega) hC.pos, fun _ => ⟨a, _, rfl, hC.at_, by rw [List.length_map]; omega, fun _ H1 e1 => ?_, fun hh => absurd hh (by rw [List.length_map]; omega)⟩, fun z => nomatch z⟩
    show tSeq (tAsg (tCall (spStrayW K) [] E0 (tCons (tVar 0) tNil)) (gName 1)) _ _ _ _
    refine asg_go ⟨.ref a, rfl, a, ws, rfl, hC.ex e1, fun C H2 e2 => ?_, fun wk p H2 hs hlk hp e2 h2 => ?_⟩
    · dsimp only [List.set_cons_zero, List.set_cons_succ]
      refine ⟨.non, rfl, rfl, true, rfl, ?_⟩
      refine if_go (fun _ => ?_) (fun z => nomatch z)
      refine fun c dx hc hd ne => ⟨c, dx, rfl, upd_same, fun H' fs hk hx hw => ⟨rfl, ?_⟩⟩
      refine qn C c H' (fun b o ho => ?_) (Evl.fresh_back (e1.trans e2) hc) ⟨dx, fs, hx, hw⟩
      have h2 := e2 _ _ (e1 _ _ ho)
      have nc : b ≠ c := ne_of_none h2 hc
      exact hk b o nc (by rw [upd_ne nc, upd_ne (ne_of_none h2 hd)]; exact h2)
    · dsimp only [List.set_cons_zero, List.set_cons_succ]
      refine ⟨.ref p, rfl, rfl, false, rfl, ?_⟩
      refine if_go (fun z => nomatch z) (fun _ => ?_)
      refine ⟨.ref p, rfl, fun x dx hx hd ne => ?_⟩
      have keep : ∀ {b : Addr} {o : HO}, H2 b = some o → upd (upd H2 dx (.own x)) x (.ins CY dx []) b = some o := fun h => by rw [upd_ne (ne_of_none h hx), upd_ne (ne_of_none h hd)]; exact h
      refine ⟨x, dx, .ref p, .list (wk.map PyData.int), rfl, upd_same, .lst (Evl.sq_of (keep h2)) (dpa_ints wk), fixable_ints (by omega), fun H' fs u hb hx' hw1 hw2 hD => ⟨rfl, ?_⟩⟩
      rw [fix_ints] at hD
      refine qy wk x H' hs hlk (Evl.fresh_back (e1.trans e2) hx) (fun b o ho => ?_) ⟨dx, fs, u, hx', hw1, hw2, dp_ex nw_ex hD⟩
      have h3 := e2 _ _ (e1 _ _ ho)
      exact hb b o (ne_of_none h3 hx) (keep h3)
end
end P51
end S_Tx
section S_Ty
namespace P51
open PySem PySem.Spec PyProof.Rows L2 Tl Hk EnL Go W50 W51
theorem scIsStray : FnScope ["colours", "value", "place"] ["colours", "value"] (defScope sIsStray) := ⟨rfl, rfl, rfl, by decide +kernel, rfl, by decide +kernel, by decide +kernel⟩
theorem scShows' : FnScope ["colours", "value"] ["colours", "value"] (defScope sShows) := ⟨rfl, rfl, rfl, by decide +kernel, rfl, by decide +kernel, by decide +kernel⟩
/-- the ints of a tuple of ints -/
def intsL : List PyData → Option (List Int)
  | [] => some []
  | .int z :: r => (intsL r).map (z :: ·)
  | _ :: _ => none
def intsD : PyData → Option (List Int)
  | .tuple ds => intsL ds
  | _ => none
def strayD (ws : List Int) (d : PyData) : Bool := match intsD d with
  | some zs => strayB ws zs
  | none => false
def WalkD (d : PyData) : Prop := (∃ ds, d = .tuple ds ∧ ds.length ≤ 2000) ∨ flatD d = true
theorem intsL_some : ∀ {ds : List PyData} {zs : List Int}, intsL ds = some zs → ds = zs.map PyData.int
  | [], zs, h => by cases h; rfl
  | .int z :: r, zs, h => by
    unfold intsL at h
    obtain ⟨ys, hy, rfl⟩ := Option.map_eq_some_iff.mp h
    rw [intsL_some hy, List.map_cons]
  | .none :: _, _, h => by cases h
  | .bool _ :: _, _, h => by cases h
  | .str _ :: _, _, h => by cases h
  | .list _ :: _, _, h => by cases h
  | .tuple _ :: _, _, h => by cases h
  | .dict _ :: _, _, h => by cases h
theorem intsL_of : ∀ zs : List Int, intsL (zs.map PyData.int) = some zs
  | [] => rfl
  | z :: r => by rw [List.map_cons, intsL, intsL_of r]; rfl
theorem dpa_ints_inv {K : PySem.W.Frag} {H : Hp} : ∀ {xs : List V} {zs : List Int}, DpAll K H xs (zs.map PyData.int) → xs = zs.map V.int
  | [], [], _ => rfl
  | _, _ :: _, .cons h t => by
    cases h
    rw [dpa_ints_inv t, List.map_cons]
theorem walkB_line {n : Nat} {zs : List Int} : lineB n (some (zs.map V.int)) = walkB n zs := by
  show (inB n (zs.map V.int) && (decide (1 ≤ (zs.map V.int).length) && stepsB (zs.map V.int))) = (decide (1 ≤ zs.length) && ((zs.all fun z => decide (0 ≤ z) && decide (z < (n : Int))) && stepsZ zs))
  have h1 : inB n (zs.map V.int) = zs.all fun z => decide (0 ≤ z) && decide (z < (n : Int)) := by
    unfold inB
    rw [List.all_map]
    congr 1
    funext z
    show (decide ((0 : Int) ≤ z) && decide (z ≤ (n : Int) - 1)) = _
    congr 1
    exact decide_eq_decide.mpr (by omega)
  have at_ : ∀ i, i < zs.length → (zs.map V.int).getD i .non = .int (zs.getD i 0) := fun i hi => by
    rw [List.getD_eq_getElem?_getD, List.getElem?_map, List.getD_eq_getElem?_getD, List.getElem?_eq_getElem hi] <;> rfl
  have h2 : stepsB (zs.map V.int) = stepsZ zs := by
    cases hs : stepsZ zs with
    | true =>
      unfold stepsB
      refine List.all_eq_true.mpr fun i hi => ?_
      rw [List.length_map] at hi
      have hi := List.mem_range.mp hi
      rw [at_ i (by omega), at_ (i + 1) (by omega)]
      have := stepsZ_at hs i (by omega)
      exact decide_eq_true (by show (zs.getD i 0 - zs.getD (i + 1) 0).natAbs ≤ 1; omega)
    | false =>
      cases hb : stepsB (zs.map V.int) with
      | false => rfl
      | true =>
        exfalso
        unfold stepsB at hb
        have := stepsZ_of (zs := zs) fun i hi => by
          have := List.all_eq_true.mp hb i (List.mem_range.mpr (by rw [List.length_map]; omega))
          rw [at_ i (by omega), at_ (i + 1) (by omega)] at this
          have : (zs.getD i 0 - zs.getD (i + 1) 0).natAbs ≤ 1 := of_decide_eq_true this
          omega
        rw [this] at hs
        cases hs
  rw [h1, h2, List.length_map]
  cases decide (1 ≤ zs.length) <;> cases (zs.all fun z => decide (0 ≤ z) && decide (z < (n : Int))) <;> rfl
theorem inB_ints {K : PySem.W.Frag} {H : Hp} {n : Nat} : ∀ {xs : List V} {ds : List PyData}, DpAll K H xs ds → inB n xs = true → ∃ zs, intsL ds = some zs
  | [], [], _, _ => ⟨[], rfl⟩
  | x :: xs, d :: ds, .cons h t, hb => by
    unfold inB at hb
    rw [List.all_cons, Bool.and_eq_true_iff] at hb
    obtain ⟨zs, hz⟩ := inB_ints t hb.2
    cases h with
    | int z => exact ⟨z :: zs, by rw [intsL, hz]; rfl⟩
    | non => cases hb.1
    | bl b => cases hb.1
    | str s => cases hb.1
    | lst _ _ => cases hb.1
    | tup _ _ => cases hb.1
/-- a walk's data and what is to be said of it -/
theorem val_walk {K : PySem.W.Frag} {H : Hp} {v : V} {d : PyData} (h : Dp K H v d) (hw : WalkD d) : ∃ o, ValR K H v o ∧ ∀ n, lineB n o = match intsD d with | some zs => walkB n zs | none => false := by
  rcases hw with ⟨ds, rfl, hl⟩ | hf
  · cases h with
    | @tup a xs _ hS hD =>
      have hlen := dpa_len hD
      refine ⟨some xs, .tup hS (by omega) (fun v hv => ?_), fun n => ?_⟩
      · obtain ⟨i, hi⟩ := List.mem_iff_getElem?.mp hv
        exact ⟨_, ty_dp (dpa_at hD hi)⟩
      · show _ = match intsL ds with | some zs => walkB n zs | none => false
        cases hi : intsL ds with
        | some zs =>
          have e := intsL_some hi
          subst e
          rw [dpa_ints_inv hD]
          exact walkB_line
        | none =>
          show lineB n (some xs) = false
          cases hb : lineB n (some xs) with
          | false => rfl
          | true =>
            obtain ⟨zs, hz⟩ := inB_ints hD (Bool.and_eq_true_iff.mp hb).1
            rw [hi] at hz
            cases hz
  · refine ⟨none, .no (ty_dp h) ?_ ?_, fun n => ?_⟩
    · cases d <;> first | (cases hf; done) | (dsimp only [tyD]; decide)
    · cases d <;> first | (cases hf; done) | (dsimp only [tyD]; decide)
    · cases d <;> first | rfl | (cases hf; done)
def spIsStray (K : PySem.W.Frag) : Sp := fun vs H Q _ => ∃ (a : Addr) (v : V) (ws : List Int) (d : PyData), vs = [.ref a, v] ∧ LineAt K H a ws ∧ Dp K H v d ∧ WalkD d ∧ ∀ H1, Evl.Ex H H1 → Q (.bl (strayD ws d)) H1
section
variable {P : Program} {w : World} {K : PySem.W.Frag} {mg : Str → Option Value} {base : Heap}
theorem ok_isStray {f fL fR CB : Addr} {fd fdL fdR : FuncData} {k : Nat} (F : Fun K "_is_stray" "_is_stray" sIsStray f fd)
    (FL : Fun K "is_line_walk" "is_line_walk" sLineWalk fL fdL) (GL : FnOk P w K mg base (L2.CX P w) k fL fdL ["value", "many"] (spLineWalk K CB)) (bL : Binds K fdL ["value", "many"] []) (gL : mg "is_line_walk" = some (.ref fL))
    (FR : Fun K "is_repeat" "is_repeat" sIsRep fR fdR) (GR : FnOk P w K mg base CX0 k fR fdR ["row"] (spRep K)) (bR : Binds K fdR ["row"] []) (gR : mg "is_repeat" = some (.ref fR)) (mlen : mg "len" = none) :
    FnOk P w K mg base (L2.CX P w) (k + 1) f fd ["colours", "value"] (spIsStray K) := by
  refine F.okX scIsStray (fun vs H Q E h => ?_) (fun cdv A outer s H vs Q E hr h => ?_)
  · obtain ⟨a, v, ws, d, rfl, _⟩ := h
    rfl
  · obtain ⟨a, v, ws, d, rfl, hC, hd, hw, q⟩ := h
    have nd := scIsStray.nd
    have lw : (ws.map V.int).length = ws.length := List.length_map _
    have hl := hC.len
    obtain ⟨o, ho, hob⟩ := val_walk hd hw
    have lwE : Evl.EvT (tNot (tB (tCall (spLineWalk K CB) [] E0 (tCons (tVar 1) (tCons (tCB (Evl.rLenS K) (tCons (tVar 0) tNil)) tNil))))) (start ["colours", "value", "place"] [.ref a, v]) H (!lineB ws.length o) :=
      Evl.et_not (Evl.et_B fun H1 e Q' q' => (Evl.ea_cons (Evl.ev_var rfl) (Evl.ea_cons (Evl.ev_is (ev_lenS (Evl.ev_var rfl) hC.at_) (w := .int (ws.length : Int)) (by rw [lw])) Evl.ea_nil)) H1 e _ fun H2 e2 => ⟨v, .int (ws.length : Int), "int", rfl, .int _, fun m em => ⟨o, ho.ex (e.trans e2), fun H3 e3 => by
        obtain rfl : ws.length = m := by
          have := V.int.inj em
          omega
        exact q' H3 (e2.trans e3)⟩, fun hz => by
        have hz' : (decide ((0 : Int) ≤ (ws.length : Int)) && true) = false := hz
        rw [decide_eq_true (by omega)] at hz'
        cases hz'⟩)
    cases hlb : lineB ws.length o with
    | false =>
      refine ⟨_, PSs.nox (pss_cons (ps_if (pt_not (pt_val (pe_call GL hr (by rfl) gL FL.kp bL .nil passF (pa_cons (pv 1) (pa_cons (pe_callB call_len_seq (by rfl) mlen PySem.boot_len (pa_cons (pv 0) (pa_nil))) (pa_nil)))))) (pss_one (ps_ret (pe_bl))) (pss_nil)) pss_never), ?_⟩
      refine Evl.q_when lwE (fun _ H1 e1 => ?_) (fun z => by rw [hlb] at z; cases z)
      refine Evl.s_ret Evl.ev_c fun H2 e2 => ?_
      have e : strayD ws d = false := by
        unfold strayD
        have := hob ws.length
        rw [hlb] at this
        cases hi : intsD d with
        | none => rfl
        | some zs =>
          rw [hi] at this
          have this : false = walkB ws.length zs := this
          show strayB ws zs = false
          unfold strayB
          rw [← this]
          rfl
      rw [← e]
      exact q H2 (e1.trans e2)
    | true =>
      have hob2 := hob ws.length
      rw [hlb] at hob2
      cases hi : intsD d with
      | none => rw [hi] at hob2; cases hob2
      | some zs =>
        rw [hi] at hob2
        have hob2 : true = walkB ws.length zs := hob2
        obtain ⟨ds, rfl⟩ : ∃ ds, d = .tuple ds := by
          cases d with
          | tuple ds => exact ⟨ds, rfl⟩
          | _ => cases hi
        have hz := intsL_some hi
        subst hz
        have hzl : zs.length ≤ 2000 := by
          rcases hw with ⟨ds', e1, e2⟩ | e1
          · cases e1
            rw [List.length_map] at e2
            exact e2
          · cases e1
        cases hd with
        | @tup p xs _ hS hD =>
          obtain rfl := dpa_ints_inv hD
          refine ⟨_, PSs.nox (pss_cons (ps_if (pt_not (pt_val (pe_call GL hr (by rfl) gL FL.kp bL .nil passF (pa_cons (pv 1) (pa_cons (pe_callB call_len_seq (by rfl) mlen PySem.boot_len (pa_cons (pv 0) (pa_nil))) (pa_nil)))))) (pss_one (ps_ret (pe_bl))) (pss_nil)) (pss_one (ps_ret (pe_and (pe_call GR hr (by rfl) gR FR.kp bR .nil pass0 (pa_cons (pe_lc (own := [("place", 2)]) (g := gName 2) (tt := tYes) (te := tOp (rIxB K) (tVar 0) (tVar 2)) rfl nd (pi_tup (pv 1)) (blkOk_by (N := ["colours", "value", "place"]) (sc := defScope sIsStray) (by decide +kernel)) (fun _ _ _ _ _ => pg_name (i := 2) nd rfl (Or.inl rfl)) (fun _ _ _ _ _ => pts_nil) (fun _ _ _ _ _ => pe_ix ix_any2 (pv 0) (pv 2) (fun _ _ => rfl))) (pa_nil))) (pe_one (pe_not (pe_call GR hr (by rfl) gR FR.kp bR .nil pass0 (pa_cons (pv 1) (pa_nil))))))))), ?_⟩
          refine Evl.q_when lwE (fun z => by rw [hlb] at z; cases z) (fun _ H1 e1 => ?_)
          have hzz : (zs.map V.int).length = zs.length := List.length_map _
          have inr : ∀ i, i < zs.length → 0 ≤ zs.getD i 0 ∧ zs.getD i 0 < (ws.length : Int) := fun i hi => by
            unfold walkB at hob2
            have h1 := (Bool.and_eq_true_iff.mp (Bool.and_eq_true_iff.mp hob2.symm).2).1
            have h2 := List.all_eq_true.mp h1 (zs.getD i 0) (by rw [List.getD_eq_getElem?_getD, List.getElem?_eq_getElem hi]; exact List.getElem_mem _)
            obtain ⟨a1, a2⟩ := Bool.and_eq_true_iff.mp h2
            exact ⟨of_decide_eq_true a1, of_decide_eq_true a2⟩
          have hcol : Evl.EvL (tLc (iTup K (tVar 1)) (gName 2) tYes (tOp (rIxB K) (tVar 0) (tVar 2)) [2]) (start ["colours", "value", "place"] [.ref a, .ref p]) H1 ((zs.map (colZ ws)).map V.int) := by
            have hsz : zs.map (fun z => V.int (colZ ws z)) = (zs.map (colZ ws)).map V.int := by rw [List.map_map]; rfl
            rw [← hsz, ← given_all zs 0 (fun z => V.int (colZ ws z))]
            have := el_lcI (te := tOp (rIxB K) (tVar 0) (tVar 2)) (t := tYes) (σ := start ["colours", "value", "place"] [.ref a, .ref p]) (H := H1) (vs := [2]) (fun _ => true) (fun i => V.int (colZ ws (zs.getD i 0))) (ei_tup (K := K) (xs := zs.map V.int) (Evl.ev_var (i := 1) rfl) (Evl.ex_t e1 hS)) (aims_at (j := 2)) (fun _ => rfl) (by rw [hzz]; omega) (fun _ _ _ _ => et_yes) fun i G eG hi _ => by
              rw [hzz] at hi
              have hin := inr i hi
              refine Evl.ev_op (Evl.ev_var rfl) (Evl.ev_is (Evl.ev_var rfl) (w := .int (zs.getD i 0)) ?_) (rv_ixB (hC.at_.ex (e1.trans eG)) ?_)
              · rw [List.getD_eq_getElem?_getD, List.getElem?_map, List.getD_eq_getElem?_getD, List.getElem?_eq_getElem hi] <;> rfl
              · have := w_at (ws := ws) (i := (zs.getD i 0).toNat) (by omega)
                rw [Int.toNat_of_nonneg hin.1] at this
                exact this
            rw [hzz] at this
            exact this
          have e : (repB (zs.map (colZ ws)) && !repB zs) = strayD ws (.tuple (zs.map PyData.int)) := by
            unfold strayD
            rw [hi]
            show _ = strayB ws zs
            unfold strayB
            rw [← hob2]
            rfl
          refine Evl.s_ret (Evl.ev_is (Evl.ev_andV (a := repB (zs.map (colZ ws))) (b := !repB zs) (fun H2 e2 Q' q' => call_raw (cons_any (hcol H2 e2 _ fun r H3 hr e3 h3 => ⟨r, zs.map (colZ ws), rfl, .inl (Evl.sq_of h3), by rw [List.length_map]; omega, fun H4 e4 => q' H4 (e3.trans e4)⟩))) fun _ => Evl.ev_notV (fun H2 e2 Q' q' => ⟨.ref p, rfl, p, zs, rfl, .inr (Evl.ex_t (e1.trans e2) hS), by omega, fun H4 e4 => q' H4 e4⟩)) (congrArg V.bl e)) fun H5 e5 => q H5 (e1.trans e5)
end
/-- what a paper handed in is -/
inductive PK where
  | stray (d : PyData)
  | calm
  | other
inductive PV (K : PySem.W.Frag) (CY CK CP CD : Addr) (H : Hp) : V → PK → Prop where
  | stray {x : Addr} {d : PyData} (h : StrayAt K CY H x d) (hw : WalkD d) : PV K CY CK CP CD H (.ref x) (.stray d)
  | calm {c : Addr} (h : CalmIns CK H c) : PV K CY CK CP CD H (.ref c) .calm
  | pap {x dx : Addr} {fs : List (Str × V)} (h : H x = some (.ins CP dx fs)) : PV K CY CK CP CD H (.ref x) .other
  | den {x dx : Addr} {fs : List (Str × V)} (h : H x = some (.ins CD dx fs)) : PV K CY CK CP CD H (.ref x) .other
  | flat {v : V} {n : String} (h : Ty7 K H v n) : PV K CY CK CP CD H v .other
theorem StrayAt.ex {K : PySem.W.Frag} {C : Addr} {H H' : Hp} {x : Addr} {d : PyData} (h : StrayAt K C H x d) (e : Evl.Ex H H') : StrayAt K C H' x d := by
  obtain ⟨dx, fs, v, h1, h2, h3, h4⟩ := h
  exact ⟨dx, fs, v, e _ _ h1, h2, h3, dp_ex e h4⟩
theorem PV.ex {K : PySem.W.Frag} {CY CK CP CD : Addr} {H H' : Hp} {v : V} {k : PK} (h : PV K CY CK CP CD H v k) (e : Evl.Ex H H') : PV K CY CK CP CD H' v k := by
  cases h with
  | stray h hw => exact .stray (h.ex e) hw
  | calm h => obtain ⟨dx, fs, h1, h2⟩ := h; exact .calm ⟨dx, fs, e _ _ h1, h2⟩
  | pap h => exact .pap (e _ _ h)
  | den h => exact .den (e _ _ h)
  | flat h => exact .flat (h.ex e)
structure TInsC (K : PySem.W.Frag) (C : Addr) : Prop where
  cl : Cls K C
  ha : PySem.W.findIn K (.ref C) "__class__" = some (some (.builtin "object.__class__"))
  hn : PySem.W.specialIn K (.builtin "object.__class__") "__get__" = some (some (.builtin "getset_descriptor.__get__"))
  ht : PySem.W.takesIn K (.builtin "object.__class__") = some true
  hm : PySem.W.mroIn K C (.type "object") = some true
theorem rc_ins {K : PySem.W.Frag} {H : Hp} {C C2 x dx : Addr} {fs : List (Str × V)} {b : Bool} (h : H x = some (.ins C dx fs)) (I : TInsC K C) (hk : PySem.W.kitOne K (.ref C) (.ref C2) = some b) : Evl.RC (rIsi K) [.ref x, .ref C2] H (.bl b) := fun H1 e _ q =>
  ⟨.ref x, .ref C2, .ref C, .ref C2, b, rfl, .own C2, .base (.ins (e _ _ h) I.cl I.ha I.hn I.ht I.hm), hk, q H1 (Evl.Ex.refl H1)⟩
theorem rc_ty {K : PySem.W.Frag} {H : Hp} {v : V} {n : String} {C2 : Addr} {b : Bool} (h : Ty7 K H v n) (hk : PySem.W.kitOne K (.type n) (.ref C2) = some b) : Evl.RC (rIsi K) [v, .ref C2] H (.bl b) := fun H1 e _ q =>
  ⟨v, .ref C2, .type n, .ref C2, b, rfl, .own C2, (h.ex e).tyx, hk, q H1 (Evl.Ex.refl H1)⟩
abbrev tys : List String := ["NoneType", "bool", "int", "str", "list", "tuple", "dict"]
theorem Ty7.mem {K : PySem.W.Frag} {H : Hp} {v : V} {n : String} (h : Ty7 K H v n) : n ∈ tys := by
  cases h <;> decide
/-- the classes of papers, and who is whose -/
structure Kits (K : PySem.W.Frag) (CY CK CP CD : Addr) : Prop where
  iY : TInsC K CY
  iK : TInsC K CK
  iP : TInsC K CP
  iD : TInsC K CD
  yy : PySem.W.kitOne K (.ref CY) (.ref CY) = some true
  yk : PySem.W.kitOne K (.ref CY) (.ref CK) = some false
  yd : PySem.W.kitOne K (.ref CY) (.ref CD) = some true
  ky : PySem.W.kitOne K (.ref CK) (.ref CY) = some false
  kk : PySem.W.kitOne K (.ref CK) (.ref CK) = some true
  kd : PySem.W.kitOne K (.ref CK) (.ref CD) = some false
  py : PySem.W.kitOne K (.ref CP) (.ref CY) = some false
  pk : PySem.W.kitOne K (.ref CP) (.ref CK) = some false
  dy : PySem.W.kitOne K (.ref CD) (.ref CY) = some false
  dk : PySem.W.kitOne K (.ref CD) (.ref CK) = some false
  ty : ∀ n ∈ tys, PySem.W.kitOne K (.type n) (.ref CY) = some false
  tk : ∀ n ∈ tys, PySem.W.kitOne K (.type n) (.ref CK) = some false
def PK.isY : PK → Bool
  | .stray _ => true
  | _ => false
def PK.isK : PK → Bool
  | .calm => true
  | _ => false
theorem rc_isY {K : PySem.W.Frag} {CY CK CP CD : Addr} {H : Hp} {v : V} {k : PK} (T : Kits K CY CK CP CD) (h : PV K CY CK CP CD H v k) : Evl.RC (rIsi K) [v, .ref CY] H (.bl k.isY) := by
  cases h with
  | stray h _ => obtain ⟨dx, fs, v, h1, _⟩ := h; exact rc_ins h1 T.iY T.yy
  | calm h => obtain ⟨dx, fs, h1, _⟩ := h; exact rc_ins h1 T.iK T.ky
  | pap h => exact rc_ins h T.iP T.py
  | den h => exact rc_ins h T.iD T.dy
  | flat h => exact rc_ty h (T.ty _ h.mem)
theorem rc_isK {K : PySem.W.Frag} {CY CK CP CD : Addr} {H : Hp} {v : V} {k : PK} (T : Kits K CY CK CP CD) (h : PV K CY CK CP CD H v k) : Evl.RC (rIsi K) [v, .ref CK] H (.bl k.isK) := by
  cases h with
  | stray h _ => obtain ⟨dx, fs, v, h1, _⟩ := h; exact rc_ins h1 T.iY T.yk
  | calm h => obtain ⟨dx, fs, h1, _⟩ := h; exact rc_ins h1 T.iK T.kk
  | pap h => exact rc_ins h T.iP T.pk
  | den h => exact rc_ins h T.iD T.dk
  | flat h => exact rc_ty h (T.tk _ h.mem)
open Classical in
noncomputable def calmB (ws : List Int) : Bool := decide (W52.Calm ws)
theorem calmB_yes {ws : List Int} (h : W52.Calm ws) : calmB ws = true := by unfold calmB; exact @decide_eq_true _ (Classical.propDecidable _) h
theorem calmB_no {ws : List Int} (h : ¬ W52.Calm ws) : calmB ws = false := by unfold calmB; exact @decide_eq_false _ (Classical.propDecidable _) h
noncomputable def showsD (ws : List Int) : PK → Bool
  | .stray d => strayD ws d
  | .calm => calmB ws
  | .other => false
def spShows (K : PySem.W.Frag) (CY CK CP CD : Addr) : Sp := fun vs H Q _ => ∃ (a : Addr) (y : V) (ws : List Int) (k : PK), vs = [.ref a, y] ∧ LineAt K H a ws ∧ PV K CY CK CP CD H y k ∧ ∀ H1, Evl.Ex H H1 → Q (.bl (showsD ws k)) H1
theorem not_calm {ws wk : List Int} (h : StrayW ws (some wk)) : ¬ W52.Calm ws := fun C => by
  have h1 := stray_of h
  rw [calm_no C] at h1
  cases h1
section
variable {P : Program} {w : World} {K : PySem.W.Frag} {mg : Str → Option Value} {base : Heap}
theorem ok_shows {f fL fS fI CC CM CY CK CP CD : Addr} {fd fdL fdS fdI : FuncData} {k : Nat} (F : Fun K "shows_line" "shows_line" sShows f fd)
    (FL : Fun K "_want_line" "_want_line" sWantLine fL fdL) (GL : FnOk P w K mg base (L2.CX P w) (k + 1) fL fdL ["colours"] (spWantLine K CC CM)) (bL : Binds K fdL ["colours"] []) (gL : mg "_want_line" = some (.ref fL))
    (FS : Fun K "_stray_walk" "_stray_walk" sStrayWalk fS fdS) (GS : FnOk P w K mg base (L2.CX P w) (k + 1) fS fdS ["colours"] (spStrayW K)) (bS : Binds K fdS ["colours"] []) (gS : mg "_stray_walk" = some (.ref fS))
    (FI : Fun K "_is_stray" "_is_stray" sIsStray fI fdI) (GI : FnOk P w K mg base (L2.CX P w) (k + 1) fI fdI ["colours", "value"] (spIsStray K)) (bI : Binds K fdI ["colours", "value"] []) (gI : mg "_is_stray" = some (.ref fI))
    (gCY : mg "Stray" = some (.ref CY)) (gCK : mg "Calm" = some (.ref CK)) (T : Kits K CY CK CP CD) (nWk : NoAttr K CY "walk") (mi : mg "isinstance" = none) : FnOk P w K mg base (L2.CX P w) (k + 2) f fd ["colours", "value"] (spShows K CY CK CP CD) := by
  refine F.okX scShows' (fun vs H Q E h => ?_) (fun cdv A outer s H vs Q E hr h => ?_)
  · obtain ⟨a, y, ws, kk, rfl, _⟩ := h
    rfl
  · obtain ⟨a, y, ws, kk, rfl, hC, hP, q⟩ := h
    have nd := scShows'.nd
    have hl := hC.len
    have isy : ∀ {G : Hp}, Evl.Ex H G → Evl.EvT (tB (tCB (rIsi K) (tCons (tVar 1) (tCons (tC (.ref CY)) tNil)))) [some (.ref a), some y] G kk.isY := fun e => Evl.et_B (Evl.ev_cb (Evl.ea_cons (Evl.ev_var rfl) (Evl.ea_cons Evl.ev_c Evl.ea_nil)) (rc_isY T (hP.ex e)))
    cases hkk : kk.isY with
    | true =>
      cases hP with
      | @stray x d hx hw =>
        refine ⟨_, pss_cons (ps_expr (pe_callS GL hr (by rfl) gL FL.kp bL (fun σ => passAt (takes_of rfl rfl rfl rfl) σ) (pa_cons (pv 0) (pa_nil)))) (PSs.nox (pss_cons (ps_if (pt_val (pe_callB call_isi (by rfl) mi (by decide +kernel) (pa_cons (pv 1) (pa_cons (pe_glob (v := .ref CY) (by rfl) gCY rfl) (pa_nil))))) (pss_one (ps_ret (pe_call GI hr (by rfl) gI FI.kp bI .nil passF (pa_cons (pv 0) (pa_cons (pe_fld (pv 1) rfl) (pa_nil)))))) (pss_nil)) pss_never)), ?_⟩
        refine ⟨.ref a, rfl, .ref a, true, rfl, row_s hC.at_ (by omega) hC.pos, fun _ => ⟨a, _, rfl, hC.at_, by rw [List.length_map]; omega, fun _ H1 e1 => ?_, fun hh => absurd hh (by rw [List.length_map]; omega)⟩, fun z => nomatch z⟩
        refine Evl.q_when (isy e1) (fun _ H2 e2 => ?_) (fun z => nomatch z)
        obtain ⟨dx, fs, v, h1, h2, h3, h4⟩ := hx.ex (e1.trans e2)
        refine ret_go (call_raw (cons_any ⟨.ref a, rfl, cons_any ?_⟩))
        refine ⟨.ref x, rfl, x, CY, dx, fs, v, rfl, h1, T.iY.cl, nWk, h3, ?_⟩
        exact ⟨a, v, ws, d, rfl, hC.ex (e1.trans e2), h4, hw, fun H3 e3 => q H3 ((e1.trans e2).trans e3)⟩
      | _ => cases hkk
    | false =>
      refine ⟨_, pss_cons (ps_expr (pe_callS GL hr (by rfl) gL FL.kp bL (fun σ => passAt (takes_of rfl rfl rfl rfl) σ) (pa_cons (pv 0) (pa_nil)))) (PSs.nox (pss_cons (ps_if (pt_val (pe_callB call_isi (by rfl) mi (by decide +kernel) (pa_cons (pv 1) (pa_cons (pe_glob (v := .ref CY) (by rfl) gCY rfl) (pa_nil))))) (pss_one (ps_never)) (pss_nil)) (pss_one (ps_ret (pe_and (pe_callB call_isi (by rfl) mi (by decide +kernel) (pa_cons (pv 1) (pa_cons (pe_glob (v := .ref CK) (by rfl) gCK rfl) (pa_nil)))) (pe_one (pe_cmpR op_isN (pe_call GS hr (by rfl) gS FS.kp bS .nil passF (pa_cons (pv 0) (pa_nil))) (pe_non) (nomark _)))))))), ?_⟩
      refine ⟨.ref a, rfl, .ref a, true, rfl, row_s hC.at_ (by omega) hC.pos, fun _ => ⟨a, _, rfl, hC.at_, by rw [List.length_map]; omega, fun _ H1 e1 => ?_, fun hh => absurd hh (by rw [List.length_map]; omega)⟩, fun z => nomatch z⟩
      refine Evl.q_when (isy e1) (fun z => by rw [hkk] at z; cases z) (fun _ H2 e2 => ?_)
      have e12 := e1.trans e2
      refine Evl.s_ret (v := .bl (showsD ws kk)) (Evl.ev_is (Evl.ev_andV (a := kk.isK) (b := calmB ws) (Evl.ev_cb (Evl.ea_cons (Evl.ev_var rfl) (Evl.ea_cons Evl.ev_c Evl.ea_nil)) (rc_isK T (hP.ex e12))) fun _ => ?_) ?_) fun H3 e3 => q H3 (e12.trans e3)
      · refine fun H3 e3 Q' q' => op_go (call_go (vs := [.ref a]) (Evl.ea_cons (Evl.ev_var rfl) Evl.ea_nil) fun H4 e4 => ⟨a, ws, rfl, (hC.ex e12).ex (e3.trans e4), fun C H5 e5 => ⟨rfl, ?_⟩, fun wk p H5 hs _ hp e5 h5 => ⟨rfl, ?_⟩⟩)
        · rw [calmB_yes C] at q'
          exact q' H5 (e4.trans e5)
        · rw [calmB_no (not_calm hs)] at q'
          exact q' H5 (e4.trans e5)
      · cases kk with
        | stray d => cases hkk
        | calm => rfl
        | other => rfl
end
end P51
end S_Ty
section S_Oa
namespace P51
open PySem PySem.Spec PyProof.Rows L2 Tl Hk EnL Go W50 W51
abbrev nPC : List Str := ["colours", "many", "begin", "half", "at"]
theorem scPCalm : FnScope nPC ["colours"] (defScope sPCalm) := ⟨rfl, rfl, rfl, by decide +kernel, rfl, by decide +kernel, by decide +kernel⟩
abbrev ttAba (K : PySem.W.Frag) : TT := tTest (tOp rEq (tOp (rIxL K) (tVar 0) (tVar 4)) (tOp (rIxL K) (tVar 0) (tOp (rI0 fun i j => V.int (i + j)) (tVar 4) (tC (.int 2)))))
theorem given_empty {n : Nat} {f : Nat → Bool} {v : Nat → V} : (Evl.given n f v).isEmpty = (List.range n).all fun i => !f i := by
  unfold Evl.given
  rw [Bool.eq_iff_iff, List.isEmpty_iff, List.map_eq_nil_iff, List.filter_eq_nil_iff, List.all_eq_true]
  refine forall_congr' fun i => forall_congr' fun hi => ?_
  cases f i <;> decide
theorem in_given {n : Nat} {f : Nat → Bool} {v : Nat → V} {u : V} (h : u ∈ Evl.given n f v) : ∃ i, i < n ∧ u = v i := by
  unfold Evl.given at h
  obtain ⟨i, hi, rfl⟩ := List.mem_map.mp h
  exact ⟨i, List.mem_range.mp (List.mem_filter.mp hi).1, rfl⟩
theorem dps_int {K : PySem.W.Frag} {B : Hp} (i : Int) : DpS K B (.int i) := ⟨.int i, .int i, rfl, by show 0 ≤ 5; omega⟩
section
open Evl
variable {K : PySem.W.Frag} {σ : L2.St} {H : Hp} {ta tb : TE}
/-- a stretch of a list of ints -/
theorem el_cut {a : Addr} {ws : List Int} {te tl th : TE} {b h : Nat} {i j : Int} (hd : Ev te σ H (.ref a)) (h1 : Ev tl σ H (.int i)) (h2 : Ev th σ H (.int j)) (hi : i = (b : Nat)) (hj : j = ((b + h : Nat) : Int)) (hs : SqL K H a (ws.map V.int)) (hl : b + h ≤ ws.length) : EvL (tSl (rSlL K) te (tPart tl) (tPart th)) σ H (((ws.drop b).take h).map V.int) := by
  have := el_sl (lo := some i) (hi := some j) hd (eo_some h1) (eo_some h2) hs
  rw [hi, hj, cutAt _ (by rw [List.length_map]; exact hl), ← List.map_drop, ← List.map_take] at this
  exact this
end
theorem ei_rng1n {σ : L2.St} {H : Hp} {ta : TA} {j : Int} {n : Nat} (hn : j.toNat = n) (h : Evl.EvA ta σ H [.int j]) (h0 : -100000 ≤ j) (h1 : j ≤ 100000) : EvI (iRng1 ta) σ H n (YFn fun k => .int (0 + k)) := by
  subst hn
  exact fun H1 e R k => h H1 e _ fun H2 e2 => ⟨j, rfl, by omega, by omega, k _ _ H2 e2 (walk_range) fun _ _ _ => trivial⟩
def spPCalm (K : PySem.W.Frag) : Sp := fun vs H Q _ => ∃ (a : Addr) (ws : List Int), vs = [.ref a] ∧ H a = some (.lst (ws.map V.int)) ∧ ws.length ≤ 400 ∧ ∀ H1, Evl.Ex H H1 → Q (.bl (calmB ws)) H1
section
variable {P : Program} {w : World} {K : PySem.W.Frag} {mg : Str → Option Value} {base : Heap}
theorem ok_pcalm {f : Addr} {fd : FuncData} {k : Nat} (F : Fun K "_law_plain_calm" "_law_plain_calm" sPCalm f fd)
    (mlen : mg "len" = none) (mrange : mg "range" = none) : FnOk P w K mg base CX0 (k + 1) f fd ["colours"] (spPCalm K) := by
  refine F.ok scPCalm (fun vs H Q E h => ?_) (fun cdv A outer s H vs Q E hr h => ?_)
  · obtain ⟨a, ws, rfl, _⟩ := h
    rfl
  · obtain ⟨a, ws, rfl, hA, hl, q⟩ := h
    have nd := scPCalm.nd
    refine ⟨_, pss_cons (ps_set (i := 1) nd rfl (.inl rfl) (pe_callB call_len_seq (by rfl) mlen PySem.boot_len (pa_cons (pv 0) (pa_nil)))) (pss_cons (ps_if (pt_cmpR (op_neD hr.units) (pe_lc (own := [("at", 4)]) (g := gName 4) (tt := ttAba K) (te := tVar 4) rfl nd (pi_range1 (by rfl) mrange (pa_cons (pe_op op_sub (pv 1) (pe_int)) (pa_nil))) (blkOk_by (N := nPC) (sc := defScope sPCalm) (by decide +kernel)) (fun _ _ _ _ _ => pg_name (i := 4) nd rfl (Or.inl rfl)) (fun _ _ _ _ _ => pts_one (pt_cmpR op_eq (pe_ix ix_list (pv 0) (pv 4) (fun _ _ => rfl)) (pe_ix ix_list (pv 0) (pe_op op_add (pv 4) (pe_int)) (fun _ _ => rfl)) (nomark _))) (fun _ _ _ _ _ => pv 4)) (pe_lst pa_nil) (nomark _)) (pss_one (ps_ret (pe_bl))) (pss_nil)) (pss_cons (ps_for PassesOwn.never rfl (pi_range1 (by rfl) mrange (pa_cons (pv 1) (pa_nil))) (pg_name (i := 2) nd rfl (Or.inl rfl)) (pss_one (ps_for PassesOwn.never rfl (pi_range2 (by rfl) mrange (pa_cons (pe_int) (pa_cons (pe_op op_add (pe_op op_fdivN (pe_op op_sub (pv 1) (pv 2)) (pe_int)) (pe_int)) (pa_nil)))) (pg_name (i := 3) nd rfl (Or.inl rfl)) (pss_one (ps_if (pt_cmpR (op_eqD hr.units) (pe_slice sl_list (pv 0) (po_some (pv 2)) (po_some (pe_op op_add (pv 2) (pv 3)))) (pe_slice sl_list (pv 0) (po_some (pe_op op_add (pv 2) (pv 3))) (po_some (pe_op op_add (pv 2) (pe_op op_mul (pe_int) (pv 3))))) (nomark _)) (pss_one (ps_ret (pe_bl))) (pss_nil)))))) (pss_one (ps_ret (pe_bl))))), ?_⟩
    have lw : (ws.map V.int).length = ws.length := List.length_map _
    have sq : ∀ {G : Hp}, Evl.Ex H G → SqL K G a (ws.map V.int) := fun e => Evl.sq_of (e _ _ hA)
    refine Evl.q_asg (v := .int (ws.length : Int)) (Evl.ev_is (Evl.ev_len (Evl.ev_var rfl) (Evl.sq_of hA)) (by rw [lw])) fun H1 e1 => ?_
    dsimp only [List.set_cons_zero, List.set_cons_succ]
    have hcmp : Evl.EvL (tLc (iRng1 (tCons (tOp (rI0 fun i j => V.int (i - j)) (tVar 1) (tC (.int 2))) tNil)) (gName 4) (ttAba K) (tVar 4) [4]) [some (.ref a), some (.int (ws.length : Int)), none, none, none] H1 (Evl.given (ws.length - 2) (fun i => decide (V.int (ws.getD i 0) = V.int (ws.getD (i + 2) 0))) fun i => .int (i : Int)) := by
      · refine el_lcI (te := tVar 4) (t := ttAba K) (vs := [4]) _ _ (ei_rng1n (j := (ws.length : Int) - 2) (n := ws.length - 2) (by omega) (Evl.ea_cons (Evl.ev_op (Evl.ev_var (i := 1) rfl) Evl.ev_c Evl.rv_I0) Evl.ea_nil) (by omega) (by omega)) (aims_fn (j := 4)) (fun _ => rfl) (by omega) (fun i G eG hi => ?_) (fun i G eG hi _ => ?_)
        · have ep : (0 : Int) + (i : Int) = (i : Int) := Int.zero_add _
          exact Evl.et_test (Evl.ev_op (Evl.ev_op (Evl.ev_var rfl) (Evl.ev_is (Evl.ev_var rfl) (by rw [ep])) (Evl.rv_ixL (sq (e1.trans eG)) (w_at (i := i) (by omega)))) (Evl.ev_op (Evl.ev_var rfl) (Evl.ev_op (Evl.ev_is (Evl.ev_var rfl) (by rw [ep])) Evl.ev_c Evl.rv_I0) (Evl.rv_ixL (sq (e1.trans eG)) (by rw [show (i : Int) + 2 = ((i + 2 : Nat) : Int) by omega]; exact w_at (by omega)))) (Evl.rv_eq rfl))
        · exact Evl.ev_is (Evl.ev_var rfl) (by rw [Int.zero_add])
    refine Evl.q_when (Evl.et_test (ev_neNilD hcmp (Evl.el_lst Evl.ea_nil (Nat.zero_le _)) fun v hv => ?_)) (fun hb H2 e2 => ?_) (fun hb H2 e2 => ?_)
    · obtain ⟨i, _, rfl⟩ := in_given hv
      exact dps_int _
    · have hno : ¬ W52.Calm ws := fun C => by
        rw [given_empty] at hb
        have : (List.range (ws.length - 2)).all (fun i => !decide (V.int (ws.getD i 0) = V.int (ws.getD (i + 2) 0))) = true := List.all_eq_true.mpr fun i hi => by
          rw [decide_eq_false fun z => C.2 i (by have := List.mem_range.mp hi; omega) (V.int.inj z)]
          rfl
        rw [this] at hb
        cases hb
      refine Evl.s_ret Evl.ev_c fun H3 e3 => ?_
      have := q H3 ((e1.trans e2).trans e3)
      rw [calmB_no hno] at this
      exact this
    have haba : ∀ i, i + 2 < ws.length → ws.getD i 0 ≠ ws.getD (i + 2) 0 := fun i hi z => by
      rw [given_empty] at hb
      cases hq : (List.range (ws.length - 2)).all (fun i => !decide (V.int (ws.getD i 0) = V.int (ws.getD (i + 2) 0))) with
      | false => rw [hq] at hb; cases hb
      | true =>
        have := List.all_eq_true.mp hq i (List.mem_range.mpr (by omega))
        rw [z, decide_eq_true rfl] at this
        cases this
    refine Evl.q_forR1 (n := (ws.length : Int)) (Evl.ea_cons (Evl.ev_var rfl) Evl.ea_nil) ⟨by omega, by omega⟩ (fun b σ' H' => ∃ y2 y3, σ' = [some (.ref a), some (.int (ws.length : Int)), y2, y3, none] ∧ Evl.Ex H H' ∧ ∀ b' < b, ∀ h, ¬ W48.Rep ws b' h)
      (fun H3 e3 => ⟨_, _, rfl, (e1.trans e2).trans e3, fun b' hb' => absurd hb' (Nat.not_lt_zero _)⟩) ?_ ?_
    · rintro b σ' H3 hbl ⟨y2, y3, rfl, e3, hn⟩
      dsimp only [List.set_cons_zero, List.set_cons_succ]
      have hdiv : ((ws.length : Int) - (b : Int)).fdiv 2 = (((ws.length - b) / 2 : Nat) : Int) := by
        rw [show (ws.length : Int) - (b : Int) = ((ws.length - b : Nat) : Int) by omega, show (2 : Int) = ((2 : Nat) : Int) from rfl, fdivN]
      refine Evl.s_forR2 (lo := 1) (n := (((ws.length - b) / 2 + 1 : Nat) : Int)) (Evl.ea_cons Evl.ev_c (Evl.ea_cons (Evl.ev_is (Evl.ev_op (Evl.ev_is (Evl.ev_op (Evl.ev_op (Evl.ev_var rfl) (Evl.ev_var rfl) Evl.rv_I0) Evl.ev_c (Evl.rv_I ⟨by omega, by omega⟩)) (congrArg V.int hdiv)) Evl.ev_c Evl.rv_I0) (congrArg V.int (by omega))) Evl.ea_nil)) ⟨by omega, by omega, by omega, by omega⟩
        (fun h σ' H' => ∃ y3, σ' = [some (.ref a), some (.int (ws.length : Int)), some (.int (b : Int)), y3, none] ∧ Evl.Ex H H' ∧ ∀ h', h' < h + 1 → ¬ W48.Rep ws b h') (fun H4 e4 => ⟨_, rfl, e3.trans e4, fun h' hh' hr => by have := hr.1; omega⟩) ?_ ?_
      · rintro h0 σ' H4 hh ⟨y3, rfl, e4, hn4⟩
        dsimp only [List.set_cons_zero, List.set_cons_succ]
        have hE : (1 : Int) + (h0 : Int) = ((h0 + 1 : Nat) : Int) := by omega
        rw [hE] at hh ⊢
        have hbh : b + 2 * (h0 + 1) ≤ ws.length := by omega
        refine Evl.s_when (Evl.et_test (ev_eqLL (el_cut (b := b) (h := h0 + 1) (Evl.ev_var rfl) (Evl.ev_var rfl) (Evl.ev_op (Evl.ev_var rfl) (Evl.ev_var rfl) Evl.rv_I0) rfl (by omega) (sq e4) (by omega)) (el_cut (b := b + (h0 + 1)) (h := h0 + 1) (Evl.ev_var rfl) (Evl.ev_op (Evl.ev_var rfl) (Evl.ev_var rfl) Evl.rv_I0) (Evl.ev_op (Evl.ev_var rfl) (Evl.ev_op Evl.ev_c (Evl.ev_var rfl) (Evl.rv_I (.inl ⟨by decide, by decide⟩))) Evl.rv_I0) (by omega) (by omega) (sq e4) (by omega)))) (fun hb5 H5 e5 => ?_) (fun hb5 H5 e5 => ?_)
        · have hno : ¬ W52.Calm ws := fun C => C.1 b (h0 + 1) ((W48.slices (by omega) hbh).mp (of_decide_eq_true hb5))
          refine Evl.s_ret Evl.ev_c fun H6 e6 => ?_
          have := q H6 ((e4.trans e5).trans e6)
          rw [calmB_no hno] at this
          exact this
        · refine ⟨_, rfl, e4.trans e5, fun h' hh' hr => ?_⟩
          by_cases z : h' < h0 + 1
          · exact hn4 h' z hr
          · obtain rfl : h' = h0 + 1 := by omega
            exact of_decide_eq_false hb5 ((W48.slices (by omega) hbh).mpr hr)
      · rintro σ' H4 ⟨y3, rfl, e4, hn4⟩
        refine ⟨_, _, rfl, e4, fun b' hb' h hr => ?_⟩
        by_cases z : b' < b
        · exact hn b' z h hr
        · obtain rfl : b' = b := by omega
          have := hr.2.1
          exact hn4 h (by omega) hr
    · rintro σ' H3 ⟨y2, y3, rfl, e3, hn⟩
      refine Evl.s_ret Evl.ev_c fun H4 e4 => ?_
      have := q H4 (e3.trans e4)
      rw [calmB_yes ⟨fun b h hr => hn b (by have := hr.1; have := hr.2.1; omega) h hr, haba⟩] at this
      exact this
end
end P51
end S_Oa
section S_Ob
namespace P51
open PySem PySem.Spec PyProof.Rows L2 Tl Hk EnL Go W50 W51
abbrev nIS : List Str := ["colours", "walk", "half", "seen", "place", "at"]
theorem scLIS : FnScope nIS ["colours", "walk"] (defScope sLIsStray) := ⟨rfl, rfl, rfl, by decide +kernel, rfl, by decide +kernel, by decide +kernel⟩
abbrev teSeq1 (K : PySem.W.Frag) : TE := tCB (rIsiT K) (tCons (tVar 1) (tCons (tTup (tCons (tC (.ty "list")) (tCons (tC (.ty "tuple")) tNil))) tNil))
abbrev ttOut (K : PySem.W.Frag) : TT := tOr (tB (tCB (rIsi K) (tCons (tVar 4) (tCons (tC (.ty "bool")) tNil)))) (tOr (tNot (tB (tCB (rIsi K) (tCons (tVar 4) (tCons (tC (.ty "int")) tNil))))) (tNot (tTest (tChain (rI0 fun i j => V.bl (decide (i ≤ j))) (rI0 fun i j => V.bl (decide (i < j))) (tC (.int 0)) (tVar 4) (tCB (Evl.rLenS K) (tCons (tVar 0) tNil))))))
abbrev ttFarB (K : PySem.W.Frag) : TT := tTest (tOp (rI0 fun i j => V.bl (decide (j < i))) (tCB (fun xs H Q => ∃ i, xs = [V.int i] ∧ Q (V.int (if i < 0 then -i else i)) H) (tCons (tOp (rI0 fun i j => V.int (i - j)) (tOp (rIxB K) (tVar 1) (tVar 5)) (tOp (rIxB K) (tVar 1) (tOp (rI0 fun i j => V.int (i - j)) (tVar 5) (tC (.int 1))))) tNil)) (tC (.int 1)))
/-- what is handed in as a walk, and its items if it is a list or a tuple -/
inductive WV (K : PySem.W.Frag) (H : Hp) : V → Option (List PyData) → Prop
  | flat {v : V} {d : PyData} (h : Dp K H v d) (f : flatD d = true) : WV K H v none
  | seq {p : Addr} {xs : List V} {ds : List PyData} (hS : SqS K H p xs) (hD : DpAll K H xs ds) (hl : ds.length ≤ 2000) (hf : ∀ d ∈ ds, flatD d = true ∧ d.canLay0 = true) : WV K H (.ref p) (some ds)
theorem WV.ex {K : PySem.W.Frag} {H H' : Hp} {v : V} {o : Option (List PyData)} (h : WV K H v o) (e : Evl.Ex H H') : WV K H' v o := by
  cases h with
  | flat h f => exact .flat (dp_ex e h) f
  | seq h1 h2 h3 h4 => exact .seq (h1.ex e) (dpa_ex e h2) h3 h4
def lawL (ws : List Int) (ds : List PyData) : Bool := match intsL ds with
  | some zs => strayB ws zs
  | none => false
def lawB (ws : List Int) : Option (List PyData) → Bool
  | none => false
  | some ds => lawL ws ds
theorem lawB_line {K : PySem.W.Frag} {H : Hp} {xs : List V} {ds : List PyData} {ws : List Int} (hD : DpAll K H xs ds) (h : lineB ws.length (some xs) = false) : lawB ws (some ds) = false := by
  show lawL ws ds = false
  unfold lawL
  cases hi : intsL ds with
  | none => rfl
  | some zs =>
    have e := intsL_some hi
    subst e
    obtain rfl := dpa_ints_inv hD
    rw [walkB_line] at h
    show strayB ws zs = false
    unfold strayB
    rw [h, Bool.false_and]
theorem lawB_short {ws : List Int} {ds : List PyData} (h : ds.length = 0 ∨ ds.length % 2 = 1) : lawB ws (some ds) = false := by
  show lawL ws ds = false
  unfold lawL
  cases hi : intsL ds with
  | none => rfl
  | some zs =>
    have e := intsL_some hi
    subst e
    rw [List.length_map] at h
    show strayB ws zs = false
    unfold strayB
    rcases h with h | h
    · unfold walkB
      rw [decide_eq_false (p := 1 ≤ zs.length) (by omega)]
      rfl
    · unfold repB
      rw [List.length_map, decide_eq_false (p := zs.length % 2 = 0) (by omega), Bool.false_and, Bool.and_false, Bool.false_and, Bool.and_false]
section
open Evl
variable {K : PySem.W.Frag} {σ : L2.St} {H : Hp} {ta tb te : TE} {x : V} {n : String}
theorem ev_isSeq1 (h : Ty7 K H x n) (hx : σ[1]? = some (some x)) : Evl.Ev (teSeq1 K) σ H (.bl (decide (n = "list") || decide (n = "tuple"))) := fun H1 e Q q =>
  ⟨x, hx, by show 2 ≤ sizeLine; decide, fun T hT => ⟨x, T, [.ty "list", .ty "tuple"], .type n, [.type "list", .type "tuple"], is7 n "list" || is7 n "tuple", rfl, upd_same, .cons (.ty _) (.cons (.ty _) .nil), ((h.ex e).ex (Evl.Ex.new hT)).tyx, by
    refine kitAny_cons (h.kit (.inr (.inr (.inl rfl)))) (fun hb => kitAny_cons (h.kit (.inr (.inr (.inr rfl)))) (fun hb2 => ?_) fun hb2 => ?_) fun hb => ?_
    · rw [hb, hb2]; exact kitAny_nil
    · rw [hb2, Bool.or_true]
    · rw [hb, Bool.true_or], by
    show Q _ _
    rw [h.isSeq]
    exact q _ (Evl.Ex.new hT)⟩⟩
theorem et_chainL {ta tb tc : TE} {i j k : Int} (h1 : Evl.Ev ta σ H (.int i)) (h2 : Evl.Ev tb σ H (.int j)) (h3 : Evl.Ev tc σ H (.int k)) : Evl.EvT (tTest (tChain (rI0 fun i j => .bl (decide (i ≤ j))) (rI0 fun i j => .bl (decide (i < j))) ta tb tc)) σ H (decide (i ≤ j) && decide (j < k)) := fun H1 e Q q =>
  h1 H1 e _ fun H2 e2 => h2 H2 (e.trans e2) _ fun H3 e3 => ⟨i, j, rfl, rfl, decide (i ≤ j), rfl, if_go (fun hb => h3 H3 ((e.trans e2).trans e3) _ fun H4 e4 => ⟨j, k, rfl, rfl, decide (j < k), rfl, by rw [hb, Bool.true_and] at q; exact q H4 ((e2.trans e3).trans e4)⟩) (fun hb => ⟨false, rfl, by rw [hb, Bool.false_and] at q; exact q H3 (e2.trans e3)⟩)⟩
theorem et_out {a : Addr} {ws : List Int} (h : Ty7 K H x n) (h0 : σ[0]? = some (some (.ref a))) (hA : H a = some (.lst (ws.map V.int))) (h2 : σ[4]? = some (some x)) : Evl.EvT (ttOut K) σ H (!wi x (.int 0) (.int ((ws.length : Int) - 1))) := by
  have b1 : Evl.EvT (tB (tCB (rIsi K) (tCons (tVar 4) (tCons (tC (.ty "bool")) tNil)))) σ H (is7 n "bool") := Evl.et_B (Evl.ev_cb (Evl.ea_cons (Evl.ev_var h2) (Evl.ea_cons Evl.ev_c Evl.ea_nil)) (rc_isi h (.inr (.inl rfl))))
  have b2 : Evl.EvT (tNot (tB (tCB (rIsi K) (tCons (tVar 4) (tCons (tC (.ty "int")) tNil))))) σ H (!is7 n "int") := Evl.et_not (Evl.et_B (Evl.ev_cb (Evl.ea_cons (Evl.ev_var h2) (Evl.ea_cons Evl.ev_c Evl.ea_nil)) (rc_isi h (.inl rfl))))
  cases h with
  | bl b => exact Evl.et_is (Evl.et_or (a := true) (b := false) (Evl.et_is b1 (by decide +kernel)) fun z => nomatch z) rfl
  | int z =>
    refine Evl.et_is (Evl.et_or (a := false) (Evl.et_is b1 (by decide +kernel)) fun _ => Evl.et_or (a := false) (Evl.et_is b2 (by decide +kernel)) fun _ => Evl.et_not (et_chainL Evl.ev_c (Evl.ev_var h2) (Evl.ev_is (ev_lenS (Evl.ev_var h0) (.inl (sq_of hA))) (by rw [List.length_map])))) ?_
    show (false || (false || !(decide ((0 : Int) ≤ z) && decide (z < (ws.length : Int))))) = !(decide ((0 : Int) ≤ z) && decide (z ≤ (ws.length : Int) - 1))
    rw [Bool.false_or, Bool.false_or]
    congr 2
    exact decide_eq_decide.mpr (by omega)
  | non => exact Evl.et_is (Evl.et_or (a := false) (Evl.et_is b1 (by decide +kernel)) fun _ => Evl.et_or (a := true) (b := false) (Evl.et_is b2 (by decide +kernel)) fun z => nomatch z) rfl
  | str s => exact Evl.et_is (Evl.et_or (a := false) (Evl.et_is b1 (by decide +kernel)) fun _ => Evl.et_or (a := true) (b := false) (Evl.et_is b2 (by decide +kernel)) fun z => nomatch z) rfl
  | lst h => exact Evl.et_is (Evl.et_or (a := false) (Evl.et_is b1 (by decide +kernel)) fun _ => Evl.et_or (a := true) (b := false) (Evl.et_is b2 (by decide +kernel)) fun z => nomatch z) rfl
  | tup h => exact Evl.et_is (Evl.et_or (a := false) (Evl.et_is b1 (by decide +kernel)) fun _ => Evl.et_or (a := true) (b := false) (Evl.et_is b2 (by decide +kernel)) fun z => nomatch z) rfl
  | dK h => exact Evl.et_is (Evl.et_or (a := false) (Evl.et_is b1 (by decide +kernel)) fun _ => Evl.et_or (a := true) (b := false) (Evl.et_is b2 (by decide +kernel)) fun z => nomatch z) rfl
theorem ev_neLL' {ns ms : List Int} (ha : EvL ta σ H (ns.map V.int)) (hb : EvL tb σ H (ms.map V.int)) : Ev (tOp (rNeD K) ta tb) σ H (.bl (!decide (ns = ms))) :=
  ev_opLL ha hb fun p q H1 h1 h2 _ => fun H2 e2 Q k => by
    refine ⟨.list (zD ns), .list (zD ms), .lst (sq_of (e2 _ _ h1)) (dp_zD ns), .lst (sq_of (e2 _ _ h2)) (dp_zD ms), PySem.W.ke_shaped_ints ns, PySem.W.ke_shaped_ints ms, ?_⟩
    rw [eqv_zD]
    exact k H2 (Ex.refl H2)
/-- list(a stretch of a list or a tuple) -/
theorem el_cutB {tl th : TO} {p : Addr} {xs : List V} {lo hi : Option Int} (h : Ev te σ H (.ref p)) (h1 : EvO tl σ H lo) (h2 : EvO th σ H hi) (hs : SqS K H p xs) : EvL (tCB (rListS K) (tCons (tSl (fun x lo hi H Q => rSlL K x lo hi H Q ∨ rSlA K x lo hi H Q) te tl th) tNil)) σ H (cutV xs lo hi) := fun H1 e Q q =>
  hs.elim
    (fun hs => h H1 e _ fun H2 e2 => h1 H2 (e.trans e2) _ fun H3 e3 => h2 H3 ((e.trans e2).trans e3) _ fun H4 e4 => Or.inl ⟨p, xs, rfl, ex_l (((e.trans e2).trans e3).trans e4) hs, fun r hr => ⟨r, _, rfl, .inl (sq_of upd_same), fun l hl => q l _ (fresh_back (((e2.trans e3).trans e4).trans (Ex.new hr)) hl) ((((e2.trans e3).trans e4).trans (Ex.new hr)).trans (Ex.new hl)) upd_same⟩⟩)
    (fun hs => h H1 e _ fun H2 e2 => h1 H2 (e.trans e2) _ fun H3 e3 => h2 H3 ((e.trans e2).trans e3) _ fun H4 e4 => Or.inr (by
      have hh := ex_t (((e.trans e2).trans e3).trans e4) hs
      refine ⟨p, xs, rfl, hh, fun hw => ⟨p, _, rfl, .inr hh, fun l hl => q l _ (fresh_back ((e2.trans e3).trans e4) hl) (((e2.trans e3).trans e4).trans (Ex.new hl)) ?_⟩, fun _ r hr => ⟨r, _, rfl, .inr (st_of upd_same), fun l hl => q l _ (fresh_back (((e2.trans e3).trans e4).trans (Ex.new hr)) hl) ((((e2.trans e3).trans e4).trans (Ex.new hr)).trans (Ex.new hl)) upd_same⟩⟩
      have e0 : cutV xs lo hi = xs := by
        unfold cutV
        rw [hw.1, hw.2, List.drop_zero, Nat.sub_zero, List.take_length]
      rw [e0]
      exact upd_same))
end
def spLIS (K : PySem.W.Frag) : Sp := fun vs H Q _ => ∃ (a : Addr) (v : V) (ws : List Int) (o : Option (List PyData)), vs = [.ref a, v] ∧ H a = some (.lst (ws.map V.int)) ∧ WV K H v o ∧ ∀ H1, Evl.Ex H H1 → Q (.bl (lawB ws o)) H1
section
variable {P : Program} {w : World} {K : PySem.W.Frag} {mg : Str → Option Value} {base : Heap}
theorem ok_lis {f : Addr} {fd : FuncData} {k : Nat} (F : Fun K "_law_is_stray" "_law_is_stray" sLIsStray f fd) (mi : mg "isinstance" = none) (mlist : mg "list" = none) (mtuple : mg "tuple" = none) (mbool : mg "bool" = none) (mint : mg "int" = none)
    (mlen : mg "len" = none) (mrange : mg "range" = none) (mabs : mg "abs" = none) : FnOk P w K mg base CX0 (k + 1) f fd ["colours", "walk"] (spLIS K) := by
  refine F.ok scLIS (fun vs H Q E h => ?_) (fun cdv A outer s H vs Q E hr h => ?_)
  · obtain ⟨a, v, ws, o, rfl, _⟩ := h
    rfl
  · obtain ⟨a, v, ws, o, rfl, hA, hv, q⟩ := h
    have nd := scLIS.nd
    refine ⟨_, pss_cons (ps_if (PW.pt (pw_or (pt_not (pt_val (pe_callB call_isiT (by rfl) mi (by decide +kernel) (pa_cons (pv 1) (pa_cons (pe_tup (pa_cons (pe_bltn (v := .ty "list") (by rfl) mlist (by decide +kernel) rfl) (pa_cons (pe_bltn (v := .ty "tuple") (by rfl) mtuple (by decide +kernel) rfl) (pa_nil)))) (pa_nil)))))) (pw_or (pt_cmpR op_eq (pe_callB call_len_seq (by rfl) mlen PySem.boot_len (pa_cons (pv 1) (pa_nil))) (pe_int) (nomark _)) (pw_or1 (pt_cmpR op_eq (pe_op op_modN (pe_callB call_len_seq (by rfl) mlen PySem.boot_len (pa_cons (pv 1) (pa_nil))) (pe_int)) (pe_int) (nomark _)))))) (pss_one (ps_ret (pe_bl))) (pss_nil)) (pss_cons (ps_if (pt_cmpR (op_neD hr.units) (pe_lc (own := [("place", 4)]) (g := gName 4) (tt := ttOut K) (te := tVar 4) rfl nd (pi_ei (pv 1)) (blkOk_by (N := nIS) (sc := defScope sLIsStray) (by decide +kernel)) (fun _ _ _ _ _ => pg_name (i := 4) nd rfl (Or.inl rfl)) (fun _ _ _ _ _ => pts_one (PW.pt (pw_or (pt_val (pe_callB call_isi (by rfl) mi (by decide +kernel) (pa_cons (pv 4) (pa_cons (pe_bltn (v := .ty "bool") (by rfl) mbool (by decide +kernel) rfl) (pa_nil))))) (pw_or (pt_not (pt_val (pe_callB call_isi (by rfl) mi (by decide +kernel) (pa_cons (pv 4) (pa_cons (pe_bltn (v := .ty "int") (by rfl) mint (by decide +kernel) rfl) (pa_nil)))))) (pw_or1 (pt_not (pt_chain op_le op_lt pe_int (pv 4) (pe_callB call_len_seq (by rfl) mlen PySem.boot_len (pa_cons (pv 0) (pa_nil)))))))))) (fun _ _ _ _ _ => pv 4)) (pe_lst pa_nil) (nomark _)) (pss_one (ps_ret (pe_bl))) (pss_nil)) (pss_cons (ps_if (pt_cmpR (op_neD hr.units) (pe_lc (own := [("at", 5)]) (g := gName 5) (tt := ttFarB K) (te := tVar 5) rfl nd (pi_range2 (by rfl) mrange (pa_cons (pe_int) (pa_cons (pe_callB call_len_seq (by rfl) mlen PySem.boot_len (pa_cons (pv 1) (pa_nil))) (pa_nil)))) (blkOk_by (N := nIS) (sc := defScope sLIsStray) (by decide +kernel)) (fun _ _ _ _ _ => pg_name (i := 5) nd rfl (Or.inl rfl)) (fun _ _ _ _ _ => pts_one (pt_cmpR op_gt (pe_callB call_abs (by rfl) mabs (by decide +kernel) (pa_cons (pe_op op_sub (pe_ix ix_any2 (pv 1) (pv 5) (fun _ _ => rfl)) (pe_ix ix_any2 (pv 1) (pe_op op_sub (pv 5) (pe_int)) (fun _ _ => rfl))) (pa_nil))) (pe_int) (nomark _))) (fun _ _ _ _ _ => pv 5)) (pe_lst pa_nil) (nomark _)) (pss_one (ps_ret (pe_bl))) (pss_nil)) (pss_cons (ps_set (i := 2) nd rfl (.inl rfl) (pe_op op_fdivN (pe_callB call_len_seq (by rfl) mlen PySem.boot_len (pa_cons (pv 1) (pa_nil))) (pe_int))) (pss_cons (ps_setLc (i := 3) (own := [("place", 4)]) (g := gName 4) (tt := tYes) (te := tOp (rIxL K) (tVar 0) (tVar 4)) rfl nd rfl rfl (sw_true rfl rfl rfl (by decide +kernel)) (pi_ei (pv 1)) (blkOk_by (N := nIS) (sc := defScope sLIsStray) (by decide +kernel)) (fun _ _ _ _ _ => pg_name (i := 4) nd rfl (Or.inl rfl)) (fun _ _ _ _ _ => pts_nil) (fun _ _ _ _ _ => pe_ix ix_list (pv 0) (pv 4) (fun _ _ => rfl))) (pss_one (ps_ret (pe_and (pe_cmpR (op_eqD hr.units) (pe_slice sl_list (pv 3) (po_none) (po_some (pv 2))) (pe_slice sl_list (pv 3) (po_some (pv 2)) (po_none)) (nomark _)) (pe_one (pe_cmpR (op_neD hr.units) (pe_callTy call_list_of (by rfl) mlist (by decide +kernel) (pa_cons (pe_slice (SlR.or sl_list sl_tupA) (pv 1) (po_none) (po_some (pv 2))) (pa_nil))) (pe_callTy call_list_of (by rfl) mlist (by decide +kernel) (pa_cons (pe_slice (SlR.or sl_list sl_tupA) (pv 1) (po_some (pv 2)) (po_none)) (pa_nil))) (nomark _)))))))))), ?_⟩
    cases hv with
    | @flat v d h f =>
      have h7 := ty_dp h
      have hnl : (decide (tyD d = "list") || decide (tyD d = "tuple")) = false := by
        cases d <;> first | rfl | (cases f; done)
      refine Evl.q_when (b := true) (Evl.et_or (a := true) (b := false) (Evl.et_is (Evl.et_not (Evl.et_B (ev_isSeq1 h7 rfl))) (by rw [hnl]; rfl)) fun z => nomatch z) (fun _ H2 e2 => ?_) (fun z => nomatch z)
      exact Evl.s_ret Evl.ev_c fun H3 e3 => q H3 (e2.trans e3)
    | @seq p xs ds hS hD hl hf =>
      have hlen := dpa_len hD
      have lw : (ws.map V.int).length = ws.length := List.length_map _
      have h7 : ∃ n, Ty7 K H (.ref p) n ∧ (decide (n = "list") || decide (n = "tuple")) = true := hS.elim (fun h => ⟨_, .lst h, by decide⟩) fun h => ⟨_, .tup h, by decide⟩
      obtain ⟨n7, h7, h7s⟩ := h7
      have hty : ∀ (i : Nat), i < xs.length → ∃ n, Ty7 K H (xs.getD i .non) n := fun i hi => ⟨_, ty_dp (dpa_at hD (i := i) (by rw [List.getD_eq_getElem?_getD, List.getElem?_eq_getElem hi] <;> rfl))⟩
      have hdp : ∀ (i : Nat), i < xs.length → DpS K H (xs.getD i .non) := fun i hi => by
        refine ⟨ds.getD i .none, dpa_at hD (i := i) (by rw [List.getD_eq_getElem?_getD, List.getElem?_eq_getElem hi] <;> rfl), ?_⟩
        have hi2 : i < ds.length := by omega
        have e : ds.getD i .none = ds[i] := by rw [List.getD_eq_getElem?_getD, List.getElem?_eq_getElem hi2] <;> rfl
        obtain ⟨this, this2⟩ := hf ds[i] (List.getElem_mem hi2)
        rw [e]
        refine ⟨this2, ?_⟩
        cases q : ds[i] with
        | list _ => rw [q] at this; cases this
        | tuple _ => rw [q] at this; cases this
        | dict _ => rw [q] at this; cases this
        | none => show 0 ≤ 5; omega
        | bool b => show 0 ≤ 5; omega
        | int b => show 0 ≤ 5; omega
        | str b => show 0 ≤ 5; omega
      have lnS : ∀ {G : Hp} {σ : L2.St}, Evl.Ex H G → σ[1]? = some (some (.ref p)) → Evl.Ev (tCB (Evl.rLenS K) (tCons (tVar 1) tNil)) σ G (.int (xs.length : Int)) := fun e hσ => ev_lenB (Evl.ev_var hσ) (hS.ex e)
      refine Evl.q_when (b := false || (decide (V.int (xs.length : Int) = V.int 0) || decide (V.int ((xs.length % 2 : Nat) : Int) = V.int 1))) (Evl.et_or (Evl.et_is (Evl.et_not (Evl.et_B (ev_isSeq1 h7 rfl))) (by rw [h7s]; rfl)) fun _ => Evl.et_or (Evl.et_test (Evl.ev_op (lnS (Evl.Ex.refl _) rfl) Evl.ev_c (Evl.rv_eq rfl))) fun _ => Evl.et_test (Evl.ev_op (Evl.ev_is (Evl.ev_op (lnS (Evl.Ex.refl _) rfl) Evl.ev_c (Evl.rv_I (by decide))) (congrArg V.int (fmodN xs.length 2))) Evl.ev_c (Evl.rv_eq rfl))) (fun hb H2 e2 => ?_) (fun hb H2 e2 => ?_)
      · rw [Bool.false_or] at hb
        refine Evl.s_ret Evl.ev_c fun H3 e3 => ?_
        have := q H3 (e2.trans e3)
        rw [lawB_short (by
          rw [← hlen]
          rcases Bool.or_eq_true_iff.mp hb with h | h
          · have := V.int.inj (of_decide_eq_true h); omega
          · have := V.int.inj (of_decide_eq_true h); omega)] at this
        exact this
      rw [Bool.false_or] at hb
      obtain ⟨hb1, hb2⟩ := Bool.or_eq_false_iff.mp hb
      have h0 : 1 ≤ xs.length := by
        have := of_decide_eq_false hb1
        rcases Nat.eq_zero_or_pos xs.length with z | z
        · exact absurd (by rw [z]; rfl) this
        · exact z
      have hev : xs.length % 2 = 0 := by
        have := of_decide_eq_false hb2
        rcases Nat.mod_two_eq_zero_or_one xs.length with z | z
        · exact z
        · exact absurd (by rw [z]; rfl) this
      have ein : ((List.range xs.length).all fun i => !!wi (xs.getD i .non) (.int 0) (.int ((ws.length : Int) - 1))) = inB ws.length xs := by
        unfold inB
        rw [Bool.eq_iff_iff, List.all_eq_true, List.all_eq_true]
        constructor
        · intro h v hv
          obtain ⟨i, hi, rfl⟩ := List.mem_iff_getElem.mp hv
          have := h i (List.mem_range.mpr hi)
          rwa [Bool.not_not, List.getD_eq_getElem?_getD, List.getElem?_eq_getElem hi] at this
        · intro h i hi
          have hi := List.mem_range.mp hi
          rw [Bool.not_not, List.getD_eq_getElem?_getD, List.getElem?_eq_getElem hi]
          exact h _ (List.getElem_mem hi)
      refine Evl.q_when (b := !inB ws.length xs) (Evl.et_is (Evl.et_test (ev_neNilD (xs := Evl.given xs.length (fun i => !wi (xs.getD i .non) (.int 0) (.int ((ws.length : Int) - 1))) fun i => xs.getD i .non)
            (el_lcI (te := tVar 4) (t := ttOut K) (σ := start nIS [.ref a, .ref p]) (vs := [4]) _ _ (ei_ei (Evl.ev_var (i := 1) rfl) (hS.ex e2)) (aims_at (j := 4)) (fun _ => rfl) (by omega) (fun i H3 e3 hi => ?_) (fun i H3 e3 hi _ => Evl.ev_var rfl)) (Evl.el_lst Evl.ea_nil (Nat.zero_le _)) fun v hv => ?_)) (by rw [given_empty, ein])) (fun hb3 H3 e3 => ?_) (fun hb3 H3 e3 => ?_)
      · obtain ⟨n, hn⟩ := hty i hi
        exact et_out ((hn.ex e2).ex e3) rfl (e3 _ _ (e2 _ _ hA)) rfl
      · obtain ⟨i, hi, rfl⟩ := in_given hv
        exact (hdp i hi).ex e2
      · refine Evl.s_ret Evl.ev_c fun H4 e4 => ?_
        have := q H4 ((e2.trans e3).trans e4)
        rw [lawB_line hD (by
          show (inB ws.length xs && (decide (1 ≤ xs.length) && stepsB xs)) = false
          rw [show inB ws.length xs = false from by cases q : inB ws.length xs with | false => rfl | true => rw [q] at hb3; cases hb3]
          rfl)] at this
        exact this
      have hin : inB ws.length xs = true := by cases q : inB ws.length xs with | true => rfl | false => rw [q] at hb3; cases hb3
      have at1 : ∀ {j : Nat}, j < xs.length → atI xs (j : Int) = some (xs.getD j .non) := fun {j} hj => atI_nat (by rw [List.getD_eq_getElem?_getD, List.getElem?_eq_getElem hj] <;> rfl)
      refine Evl.q_when (b := !stepsB xs) (Evl.et_is (Evl.et_test (ev_neNilD (xs := Evl.given (xs.length - 1) (fun i => decide (1 < (iV (xs.getD (i + 1) .non) - iV (xs.getD i .non)).natAbs)) fun i => V.int (1 + (i : Int)))
            (el_lcI (te := tVar 5) (t := ttFarB K) (σ := start nIS [.ref a, .ref p]) (vs := [5]) _ _ (ei_rng2c (i := 1) (j := (xs.length : Int)) (n := xs.length - 1) (by omega) (Evl.ea_cons Evl.ev_c (Evl.ea_cons (lnS (e2.trans e3) rfl) Evl.ea_nil)) (by omega) (by omega)) (aims_fn (j := 5)) (fun _ => rfl) (by omega) (fun i H4 e4 hi => ?_) (fun i H4 e4 hi _ => Evl.ev_var rfl)) (Evl.el_lst Evl.ea_nil (Nat.zero_le _)) fun v hv => ?_)) ?_) (fun hb4 H4 e4 => ?_) (fun hb4 H4 e4 => ?_)
      · obtain ⟨z, e5, _, _⟩ := inB_at hin (i := i) (by omega)
        obtain ⟨u, e6, _, _⟩ := inB_at hin (i := i + 1) (by omega)
        have hS4 := hS.ex ((e2.trans e3).trans e4)
        have x1 : Evl.Ev (tOp (rIxB K) (tVar 1) (tVar 5)) ((wipe (start nIS [.ref a, .ref p]) [5]).set 5 (some (.int (1 + (i : Int))))) H4 (.int u) := Evl.ev_op (Evl.ev_var rfl) (Evl.ev_var rfl) (rv_ixB hS4 (by rw [show (1 : Int) + (i : Int) = ((i + 1 : Nat) : Int) by omega, at1 (by omega), e6]))
        have x2 : Evl.Ev (tOp (rIxB K) (tVar 1) (tOp (rI0 fun i j => V.int (i - j)) (tVar 5) (tC (.int 1)))) ((wipe (start nIS [.ref a, .ref p]) [5]).set 5 (some (.int (1 + (i : Int))))) H4 (.int z) := Evl.ev_op (Evl.ev_var rfl) (Evl.ev_op (Evl.ev_var rfl) Evl.ev_c Evl.rv_I0) (rv_ixB hS4 (by rw [show (1 : Int) + (i : Int) - 1 = ((i : Nat) : Int) by omega, at1 (by omega), e5]))
        refine Evl.et_is (Evl.et_test (Evl.ev_op (ev_abs (Evl.ev_op x1 x2 Evl.rv_I0)) Evl.ev_c Evl.rv_I0)) ?_
        rw [e5, e6]
        show decide ((1 : Int) < if u - z < 0 then -(u - z) else u - z) = decide (1 < (u - z).natAbs)
        refine decide_eq_decide.mpr ?_
        split <;> omega
      · obtain ⟨i, hi, rfl⟩ := in_given hv
        exact dps_int _
      · rw [given_empty]
        congr 1
        unfold stepsB
        congr 1
        funext i
        rw [← decide_not]
        exact decide_eq_decide.mpr (by omega)
      · refine Evl.s_ret Evl.ev_c fun H5 e5 => ?_
        have := q H5 (((e2.trans e3).trans e4).trans e5)
        rw [lawB_line hD (by
          show (inB ws.length xs && (decide (1 ≤ xs.length) && stepsB xs)) = false
          rw [(show stepsB xs = false from by cases q : stepsB xs with | false => rfl | true => rw [q] at hb4; cases hb4), Bool.and_false, Bool.and_false])] at this
        exact this
      have hst : stepsB xs = true := by cases q : stepsB xs with | true => rfl | false => rw [q] at hb4; cases hb4
      obtain ⟨zs, hz⟩ := inB_ints hD hin
      have e := intsL_some hz
      subst e
      obtain rfl := dpa_ints_inv hD
      have hzl : (zs.map V.int).length = zs.length := List.length_map _
      rw [hzl] at h0 hev lnS
      have hwB : walkB ws.length zs = true := by
        rw [← walkB_line]
        show (inB ws.length (zs.map V.int) && (decide (1 ≤ (zs.map V.int).length) && stepsB (zs.map V.int))) = true
        rw [hin, hst, hzl, decide_eq_true h0]
        rfl
      have e14 := (e2.trans e3).trans e4
      refine Evl.q_asg (v := .int ((zs.length / 2 : Nat) : Int)) (Evl.ev_is (Evl.ev_op (lnS e14 rfl) Evl.ev_c (Evl.rv_I ⟨by omega, by omega⟩)) (congrArg V.int (fdivN zs.length 2))) fun H5 e5 => ?_
      dsimp only [List.set_cons_zero, List.set_cons_succ]
      have inr : ∀ i, i < zs.length → 0 ≤ zs.getD i 0 ∧ zs.getD i 0 < (ws.length : Int) := fun i hi => by
        unfold walkB at hwB
        have h1 := (Bool.and_eq_true_iff.mp (Bool.and_eq_true_iff.mp hwB).2).1
        have h2 := List.all_eq_true.mp h1 (zs.getD i 0) (by rw [List.getD_eq_getElem?_getD, List.getElem?_eq_getElem hi]; exact List.getElem_mem _)
        obtain ⟨a1, a2⟩ := Bool.and_eq_true_iff.mp h2
        exact ⟨of_decide_eq_true a1, of_decide_eq_true a2⟩
      have hcol : Evl.EvL (tLc (iEi K (tVar 1)) (gName 4) tYes (tOp (rIxL K) (tVar 0) (tVar 4)) [4]) [some (.ref a), some (.ref p), some (.int ((zs.length / 2 : Nat) : Int)), none, none, none] H5 ((zs.map (colZ ws)).map V.int) := by
        have hsz : zs.map (fun z => V.int (colZ ws z)) = (zs.map (colZ ws)).map V.int := by rw [List.map_map]; rfl
        rw [← hsz, ← given_all zs 0 (fun z => V.int (colZ ws z))]
        have := el_lcI (te := tOp (rIxL K) (tVar 0) (tVar 4)) (t := tYes) (σ := [some (.ref a), some (.ref p), some (.int ((zs.length / 2 : Nat) : Int)), none, none, none]) (H := H5) (vs := [4]) (fun _ => true) (fun i => V.int (colZ ws (zs.getD i 0))) (ei_ei (K := K) (xs := zs.map V.int) (Evl.ev_var (i := 1) rfl) (hS.ex (e14.trans e5))) (aims_at (j := 4)) (fun _ => rfl) (by rw [hzl]; omega) (fun _ _ _ _ => et_yes) fun i G eG hi _ => by
          rw [hzl] at hi
          have hin := inr i hi
          refine Evl.ev_op (Evl.ev_var rfl) (Evl.ev_is (Evl.ev_var rfl) (w := .int (zs.getD i 0)) ?_) (Evl.rv_ixL (Evl.sq_of ((e14.trans (e5.trans eG)) _ _ hA)) ?_)
          · rw [List.getD_eq_getElem?_getD, List.getElem?_map, List.getD_eq_getElem?_getD, List.getElem?_eq_getElem hi] <;> rfl
          · have := w_at (ws := ws) (i := (zs.getD i 0).toNat) (by omega)
            rw [Int.toNat_of_nonneg hin.1] at this
            exact this
        rw [hzl] at this
        exact this
      refine Evl.q_asgL hcol fun S H6 hS0 e6 hSeen => ?_
      have lc : (zs.map (colZ ws)).length = zs.length := List.length_map _
      have tk : ∀ (ys : List Int), cutV (ys.map V.int) none (some ((zs.length / 2 : Nat) : Int)) = (ys.take (zs.length / 2)).map V.int := fun ys => by rw [cutTo', List.map_take]
      have dr : ∀ (ys : List Int), cutV (ys.map V.int) (some ((zs.length / 2 : Nat) : Int)) none = (ys.drop (zs.length / 2)).map V.int := fun ys => by rw [cutFrom, List.map_drop]
      refine Evl.s_ret (v := .bl (lawB ws (some (zs.map PyData.int)))) (Evl.ev_is (Evl.ev_andV (ev_eqLL (ns := (zs.map (colZ ws)).take (zs.length / 2)) (ms := (zs.map (colZ ws)).drop (zs.length / 2)) ?_ ?_) fun _ => ev_neLL' (ns := zs.take (zs.length / 2)) (ms := zs.drop (zs.length / 2)) ?_ ?_) ?_) fun H7 e7 => q H7 (((e14.trans e5).trans e6).trans e7)
      · rw [← tk]
        exact Evl.el_sl (Evl.ev_var rfl) Evl.eo_none (Evl.eo_some (Evl.ev_var rfl)) (Evl.sq_of hSeen)
      · rw [← dr]
        exact Evl.el_sl (Evl.ev_var rfl) (Evl.eo_some (Evl.ev_var rfl)) Evl.eo_none (Evl.sq_of hSeen)
      · rw [← tk]
        exact el_cutB (Evl.ev_var rfl) Evl.eo_none (Evl.eo_some (Evl.ev_var rfl)) (hS.ex ((e14.trans e5).trans e6))
      · rw [← dr]
        exact el_cutB (Evl.ev_var rfl) (Evl.eo_some (Evl.ev_var rfl)) Evl.eo_none (hS.ex ((e14.trans e5).trans e6))
      · show V.bl _ = V.bl (lawL ws (zs.map PyData.int))
        unfold lawL
        rw [hz]
        show V.bl _ = V.bl (strayB ws zs)
        unfold strayB repB
        rw [hwB, lc, decide_eq_true (p := 0 < zs.length / 2) (by omega), decide_eq_true hev]
        rfl
end
end P51
end S_Ob
section S_Oc
namespace P51
open PySem PySem.Spec PyProof.Rows L2 Tl Hk EnL Go W50 W51
abbrev nDr : List Str := ["cord", "way", "many", "begin", "near", "at", "turn"]
theorem scDrawn : FnScope nDr ["cord"] (defScope sDrawn) := ⟨rfl, rfl, rfl, by decide +kernel, rfl, by decide +kernel, by decide +kernel⟩
abbrev teDraw : TE := tCall spScoop [] E0 (tCons (tVar 0) (tCons (tOp (rI0 fun i j => V.int (i + j)) (tOp (rI0 fun i j => V.int (i + j)) (tC (.int 2)) (tVar 1)) (tCall spScoop [] E0 (tCons (tVar 0) (tCons (tC (.int 3)) tNil)))) tNil))
theorem iv_zs (l : List Nat) : iv l = (W52.zs l).map V.int := by
  unfold iv W52.zs
  rw [List.map_map]
  rfl
theorem zs_pos (l : List Nat) : ∀ z ∈ W52.zs l, 0 ≤ z := fun z hz => by
  unfold W52.zs at hz
  obtain ⟨x, _, rfl⟩ := List.mem_map.mp hz
  omega
section
open Evl
variable {K : PySem.W.Frag} {σ : L2.St} {H : Hp} {ta tb te tl th : TE} {tA : TA}
theorem sp_line {C : Addr} {m : Nat} (hm : m ≤ 2000) {H1 : Hp} {Q : VK} {E : XK} (q : ∀ p H2, H1 p = none → Ex H1 H2 → H2 p = some (.tup (iv (W52.LC m))) → Q (.ref p) H2) : spLineCol K C [.int (m : Int)] H1 Q E := by
  refine ⟨.int (m : Int), "int", rfl, .int _, fun m' em _ p H2 hp e h => ?_, fun hw => ?_⟩
  · have : m = m' := by have := V.int.inj em; omega
    subst this
    exact q p H2 hp e h
  · have hw' : (decide ((0 : Int) ≤ (m : Int)) && decide ((m : Int) ≤ 2000)) = false := hw
    rw [decide_eq_true (by omega), decide_eq_true (by omega)] at hw'
    cases hw'
theorem eu_line {C : Addr} {m : Nat} (h : EvA tA σ H [.int (m : Int)]) (hm : m ≤ 2000) : EvU (tCall (spLineCol K C) [] E0 tA) σ H (iv (W52.LC m)) := fun H1 e Q q =>
  h H1 e _ fun H2 e2 => sp_line hm fun p H3 hp e3 h3 => q p H3 (fresh_back e2 hp) (e2.trans e3) h3
theorem eu_plain {C : Addr} {m : Nat} (h : EvA tA σ H [.int (m : Int)]) (hm : m ≤ 2000) : EvU (tCall (spPlain K C) [] E0 tA) σ H (iv (W47.W2.take m)) := fun H1 e Q q =>
  h H1 e _ fun H2 e2 => by
    refine ⟨.int (m : Int), "int", rfl, .int _, fun m' em _ p H3 hp e3 h => ?_, fun hw => ?_⟩
    · have : m = m' := by have := V.int.inj em; omega
      subst this
      exact q p H3 (fresh_back e2 hp) (e2.trans e3) h
    · have hw' : (decide ((0 : Int) ≤ (m : Int)) && decide ((m : Int) ≤ 2000)) = false := hw
      rw [decide_eq_true (by omega), decide_eq_true (by omega)] at hw'
      cases hw'
/-- list(a new tuple's stretch) -/
theorem el_listSlU {xs : List V} {tl th : TO} {lo hi : Option Int} (h : EvU te σ H xs) (h1 : EvO tl σ H lo) (h2 : EvO th σ H hi) : EvL (tCB (rListS K) (tCons (tSl (rSlA K) te tl th) tNil)) σ H (cutV xs lo hi) := fun H1 e Q q =>
  h H1 e _ fun p H2 hp e2 hh => h1 H2 (e.trans e2) _ fun H3 e3 => h2 H3 ((e.trans e2).trans e3) _ fun H4 e4 => by
    have hh := st_of (K := K) (e4 _ _ (e3 _ _ hh))
    have e24 := (e2.trans e3).trans e4
    refine ⟨p, xs, rfl, hh, fun hw => ⟨p, _, rfl, .inr hh, fun l hl => q l _ (fresh_back e24 hl) (e24.trans (Ex.new hl)) ?_⟩, fun _ r hr => ⟨r, _, rfl, .inr (st_of upd_same), fun l hl => q l _ (fresh_back (e24.trans (Ex.new hr)) hl) ((e24.trans (Ex.new hr)).trans (Ex.new hl)) upd_same⟩⟩
    have e0 : cutV xs lo hi = xs := by
      unfold cutV
      rw [hw.1, hw.2, List.drop_zero, Nat.sub_zero, List.take_length]
    rw [e0]
    exact upd_same
theorem el_catN {xs ys : List V} (ha : EvL ta σ H xs) (hb : EvL tb σ H ys) (hz : xs.length + ys.length ≤ 100000) : EvL (tOp rCat ta tb) σ H (xs ++ ys) := fun H1 e Q q =>
  ha H1 e _ fun a H2 ha' e2 h2 => hb H2 (e.trans e2) _ fun p H3 _ e3 h3 => ⟨a, p, xs, ys, rfl, rfl, e3 _ _ h2, h3, sz_of hz, fun r hr => q r _ (fresh_back (e2.trans e3) hr) ((e2.trans e3).trans (Ex.new hr)) upd_same⟩
theorem el_stretch {ns : List Nat} {b m : Nat} (h : EvU te σ H (iv ns)) (h1 : Ev tl σ H (.int (b : Int))) (h2 : Ev th σ H (.int ((b : Int) + (m : Int)))) (hl : b + m ≤ ns.length) : EvL (tCB (rListS K) (tCons (tSl (rSlA K) te (tPart tl) (tPart th)) tNil)) σ H ((((W52.zs ns).drop b).take m).map V.int) := by
  have := el_listSlU (K := K) h (eo_some h1) (eo_some h2)
  rw [show (b : Int) + (m : Int) = ((b + m : Nat) : Int) by omega, iv_zs, cutAt _ (by rw [List.length_map]; unfold W52.zs; rw [List.length_map]; exact hl), ← List.map_drop, ← List.map_take] at this
  exact this
end
/-- a drawn list of ints, none below 0 -/
structure DW (H0 : Hp) (t c : Addr) (n : Nat) (p : Addr) (ws : List Int) (H : Hp) : Prop where
  at_ : H p = some (.lst (ws.map V.int))
  new : H0 p = none
  pos : ∀ w ∈ ws, 0 ≤ w
  len : ws.length ≤ 30
  tub : Tub H t c n
  kept : Kept t H0 H
theorem DW.ex {H0 : Hp} {t c : Addr} {n : Nat} {p : Addr} {ws : List Int} {H H' : Hp} (h : DW H0 t c n p ws H) (e : Evl.Ex H H') : DW H0 t c n p ws H' := ⟨e _ _ h.at_, h.new, h.pos, h.len, h.tub.ex e, h.kept.trans (Kept.of e)⟩
theorem DW.draw {H0 : Hp} {t c : Addr} {n n' m : Nat} {p : Addr} {ws : List Int} {H H' : Hp} (h : DW H0 t c n p ws H) (T0 : Tub H0 t c m) (k : Kept t H H') (T : Tub H' t c n') : DW H0 t c n' p ws H' := ⟨k _ _ (T0.ne h.new).1 h.at_, h.new, h.pos, h.len, T, h.kept.trans k⟩
theorem DW.mono {H0 : Hp} {t c : Addr} {n n' : Nat} {p : Addr} {ws : List Int} {H : Hp} (h : DW H0 t c n p ws H) (l : n ≤ n') : DW H0 t c n' p ws H := ⟨h.at_, h.new, h.pos, h.len, h.tub.mono l, h.kept⟩
theorem kept_mut {t p : Addr} {H H' : Hp} {o : HO} (k : Kept t H H') (h : H p = none) : Kept t H (upd H' p o) := fun a u n e => by
  rw [upd_ne (ne_of_none e h)]
  exact k a u n e
theorem kept_fresh {t c p : Addr} {n n' : Nat} {H H' : Hp} (k : Kept t H H') (T : Tub H t c n) (T' : Tub H' t c n') (h : H' p = none) : H p = none := by
  cases e : H p with
  | none => rfl
  | some o =>
    have := k p o (T'.ne h).1 e
    rw [h] at this
    cases this
def spDrawn : Sp := fun vs H Q _ => ∃ (t c : Addr) (n : Nat), vs = [.ref t] ∧ Tub H t c n ∧ n ≤ 10000 ∧ ∀ p ws H', DW H t c (n + 60) p ws H' → Q (.ref p) H'
section
variable {P : Program} {w : World} {K : PySem.W.Frag} {mg : Str → Option Value} {base : Heap}
set_option maxHeartbeats 1000000 in
theorem ok_drawn {f fS fP fLC fPL CB : Addr} {fd fdS fdP fdLC fdPL : FuncData} {k : Nat} (F : Fun K "_law_drawn" "_law_drawn" sDrawn f fd)
    (FS : Fun K "_law_ply" "_law_ply" sScoop fS fdS) (GS : FnOk P w K mg base CX0 k fS fdS ["cord", "many"] spScoop) (bS : Binds K fdS ["cord", "many"] []) (gS : mg "_law_ply" = some (.ref fS))
    (FP : Fun K "_law_pick" "_law_pick" sPick fP fdP) (GP : FnOk P w K mg base CX0 k fP fdP ["cord", "some"] (spPick K)) (bP : Binds K fdP ["cord", "some"] []) (gP : mg "_law_pick" = some (.ref fP))
    (FLC : Fun K "line_colours" "line_colours" sLineCol fLC fdLC) (GLC : FnOk P w K mg base (L2.CX P w) k fLC fdLC ["many"] (spLineCol K CB)) (bLC : Binds K fdLC ["many"] []) (gLC : mg "line_colours" = some (.ref fLC))
    (FPL : Fun K "plain_word" "plain_word" sPlain fPL fdPL) (GPL : FnOk P w K mg base (L2.CX P w) k fPL fdPL ["many"] (spPlain K CB)) (bPL : Binds K fdPL ["many"] []) (gPL : mg "plain_word" = some (.ref fPL))
    (mlist : mg "list" = none) (mrange : mg "range" = none) : FnOk P w K mg base CX0 (k + 1) f fd ["cord"] spDrawn := by
  refine F.ok scDrawn (fun vs H Q E h => ?_) (fun cdv A outer s H vs Q E hr h => ?_)
  · obtain ⟨t, c, n, rfl, _⟩ := h
    rfl
  · obtain ⟨t, c, n, rfl, hT, hn, q⟩ := h
    have nd := scDrawn.nd
    refine ⟨_, pss_cons (ps_asg (pe_tup (pa_cons (pe_call GS hr (by rfl) gS FS.kp bS .nil pass0 (pa_cons (pv 0) (pa_cons (pe_int) (pa_nil)))) (pa_cons (pe_call GP hr (by rfl) gP FP.kp bP .nil pass0 (pa_cons (pv 0) (pa_cons (pe_lst (pa_cons (pe_int) (pa_cons (pe_int) (pa_cons (pe_int) (pa_cons (pe_int) (pa_cons (pe_int) (pa_cons (pe_int) (pa_cons (pe_int) (pa_nil))))))))) (pa_nil)))) (pa_nil)))) (pg_tup (by rfl) (pgs_cons (pg_name (i := 1) nd rfl (Or.inr rfl)) (pgs_cons (pg_name (i := 2) nd rfl (Or.inl rfl)) pgs_nil)))) (pss_cons (ps_set (i := 3) nd rfl (.inl rfl) (pe_call GS hr (by rfl) gS FS.kp bS .nil pass0 (pa_cons (pv 0) (pa_cons (pe_int) (pa_nil))))) (pss_cons (ps_set (i := 4) nd rfl (.inl rfl) (pe_callTy call_list_of (by rfl) mlist (by decide +kernel) (pa_cons (pe_slice sl_tupA (pe_call GLC hr (by rfl) gLC FLC.kp bLC .nil passF (pa_cons (pe_int) (pa_nil))) (po_some (pv 3)) (po_some (pe_op op_add (pv 3) (pv 2)))) (pa_nil)))) (pss_cons (ps_if (pt_cmpR op_lt (pv 1) (pe_int) (nomark _)) (pss_one (ps_ret (pe_lc (own := [("turn", 6)]) (g := gName 6) (tt := tYes) (te := teDraw) rfl nd (pi_range1 (by rfl) mrange (pa_cons (pv 2) (pa_nil))) (blkOk_by (N := nDr) (sc := defScope sDrawn) (by decide +kernel)) (fun _ _ _ _ _ => pg_name (i := 6) nd rfl (Or.inl rfl)) (fun _ _ _ _ _ => pts_nil) (fun _ _ _ _ _ => pe_call GS hr (by rfl) gS FS.kp bS .nil pass0 (pa_cons (pv 0) (pa_cons (pe_op op_add (pe_op op_add (pe_int) (pv 1)) (pe_call GS hr (by rfl) gS FS.kp bS .nil pass0 (pa_cons (pv 0) (pa_cons (pe_int) (pa_nil))))) (pa_nil))))))) (pss_nil)) (pss_cons (ps_if (pt_cmpR op_eq (pv 1) (pe_int) (nomark _)) (pss_one (ps_ret (pe_callTy call_list_of (by rfl) mlist (by decide +kernel) (pa_cons (pe_slice sl_tupA (pe_call GPL hr (by rfl) gPL FPL.kp bPL .nil passF (pa_cons (pe_int) (pa_nil))) (po_some (pv 3)) (po_some (pe_op op_add (pv 3) (pv 2)))) (pa_nil))))) (pss_nil)) (Evl.pss_cut (ps_if (PW.pt (pw_and (pt_cmpR op_eq (pv 1) (pe_int) (nomark _)) (pw_and1 (pt_cmpR (op_neD hr.units) (pv 4) (pe_lst pa_nil) (nomark _))))) (pss_one (ps_asg (pe_call GS hr (by rfl) gS FS.kp bS .nil pass0 (pa_cons (pv 0) (pa_cons (pe_int) (pa_nil)))) (pg_sub (pv 4) (pe_call GS hr (by rfl) gS FS.kp bS .nil pass0 (pa_cons (pv 0) (pa_cons (pv 2) (pa_nil)))) set_list))) (pss_nil)) (pss_cons (ps_if (PW.pt (pw_and (pt_cmpR op_eq (pv 1) (pe_int) (nomark _)) (pw_and1 (pt_cmpR op_gt (pv 2) (pe_int) (nomark _))))) (pss_cons (ps_set (i := 5) nd rfl (.inl rfl) (pe_call GS hr (by rfl) gS FS.kp bS .nil pass0 (pa_cons (pv 0) (pa_cons (pe_op op_sub (pv 2) (pe_int)) (pa_nil))))) (pss_one (ps_set (i := 4) nd rfl (.inl rfl) (pe_op op_cat (pe_op op_cat (pe_slice sl_list (pv 4) (po_none) (po_some (pv 5))) (pe_lst (pa_cons (pe_ix ix_list (pv 4) (pe_op op_add (pv 5) (pe_int)) (fun _ _ => rfl)) (pa_cons (pe_ix ix_list (pv 4) (pv 5) (fun _ _ => rfl)) (pa_nil))))) (pe_slice sl_list (pv 4) (po_some (pe_op op_add (pv 5) (pe_int))) (po_none)))))) (pss_nil)) (pss_one (ps_ret (pv 4))))))))), ?_⟩
    refine q_asg1 (tup_go (cons_any ⟨.ref t, rfl, t, c, 6, n, rfl, hT, by omega, by omega, by omega, fun wy H1 w0 w1 k1 T1 => cons_any ⟨.ref t, rfl, ?_⟩⟩))
    refine ⟨by show 7 ≤ sizeLine; decide, fun l hl => ⟨t, c, l, _, n + 1, rfl, T1.same (same_new hl), by omega, (T1.ne hl).1, .inl (.inl upd_same), by show 1 ≤ 7; omega, by show 7 ≤ 10000; omega, fun j v H2 hj k2 T2 => ?_⟩⟩
    obtain ⟨m, rfl, hm⟩ : ∃ m : Nat, v = .int (m : Int) ∧ m ≤ 10 := by
      have hm := List.mem_of_getElem? hj
      simp only [List.mem_cons, List.not_mem_nil, or_false] at hm
      rcases hm with e | e | e | e | e | e | e
      · exact ⟨9, e, by decide⟩
      · exact ⟨6, e, by decide⟩
      · exact ⟨10, e, by decide⟩
      · exact ⟨4, e, by decide⟩
      · exact ⟨2, e, by decide⟩
      · exact ⟨1, e, by decide⟩
      · exact ⟨0, e, by decide⟩
    refine ⟨by show 2 ≤ sizeLine; decide, fun p hp => ⟨p, _, rfl, Evl.st_of upd_same, rfl, _, _, rfl, _, _, rfl, rfl, ?_⟩⟩
    have T3 := T2.same (same_new (o := .tup [.int wy, .int (m : Int)]) hp)
    have k3 : Kept t H _ := ((k1.trans (Kept.of (same_new (o := .lst [.int 9, .int 6, .int 10, .int 4, .int 2, .int 1, .int 0]) hl))).trans k2).trans (Kept.of (same_new (o := .tup [.int wy, .int (m : Int)]) hp))
    clear k1 k2 hj hl T1 T2
    refine asg_go ⟨.ref t, rfl, t, c, 20, n + 2, rfl, T3, by omega, by omega, by omega, fun b H3 b0 b1 k4 T4 => ?_⟩
    obtain ⟨b, rfl⟩ : ∃ b' : Nat, b = (b' : Int) := ⟨b.toNat, by omega⟩
    have kH := k3.trans k4
    clear k3 k4 T3 hp
    dsimp only [List.set_cons_zero, List.set_cons_succ]
    refine Evl.q_asgL (el_stretch (K := K) (ns := W52.LC 30) (b := b) (m := m) (eu_line (m := 30) (Evl.ea_cons Evl.ev_c Evl.ea_nil) (by omega)) (Evl.ev_var rfl) (Evl.ev_op (Evl.ev_var rfl) (Evl.ev_var rfl) Evl.rv_I0) (by rw [W52.LC_len]; omega)) fun p4 H4 hp4 e4 h4 => ?_
    obtain ⟨ws, hws, hlen, hpos⟩ : ∃ ws : List Int, ((W52.zs (W52.LC 30)).drop b).take m = ws ∧ ws.length = m ∧ ∀ z ∈ ws, 0 ≤ z := ⟨_, rfl, by
      unfold W52.zs
      rw [List.length_take, List.length_drop, List.length_map, W52.LC_len]
      omega, fun z hz => zs_pos _ z (List.mem_of_mem_drop (List.mem_of_mem_take hz))⟩
    rw [hws] at h4
    clear hws
    have p0 : H p4 = none := kept_fresh kH hT T4 hp4
    have dw : DW H t c (n + 3) p4 ws H4 := ⟨h4, p0, hpos, by omega, T4.ex e4, kH.trans (Kept.of e4)⟩
    clear h4 hp4 p0 kH T4 e4 hpos
    refine Evl.q_when (b := decide (wy < 2)) (Evl.et_test (Evl.ev_op (Evl.ev_var rfl) Evl.ev_c Evl.rv_I0)) (fun hb H5 e5 => ?_) (fun hb H5 e5 => ?_)
    · have hb := of_decide_eq_true hb
      have d5 := dw.ex e5
      refine ret_go ⟨.int (m : Int), rfl, (m : Int), rfl, by omega, by omega, fun W hW => ?_⟩
      have W0 : H W = none := kept_fresh d5.kept hT d5.tub hW
      have Wt := (d5.tub.ne hW).1
      have Wc := (d5.tub.ne hW).2
      refine lc_range (lo := 0) (n := (m : Int).toNat) (fun i H' => ∃ ms : List Int, ms.length = i ∧ (∀ w ∈ ms, 0 ≤ w) ∧ H' W = some (.lst (ms.map V.int)) ∧ Tub H' t c (n + 3 + 2 * i) ∧ Kept t H H')
        ⟨[], rfl, (fun _ h => nomatch h), upd_same, d5.tub.same (same_new hW), kept_mut d5.kept W0⟩ ?_ ?_
      · rintro i' H' hi ⟨ms, l1, l2, l3, T', k'⟩
        refine ⟨rfl, yes_at ?_⟩
        refine call_raw (cons_any ⟨.ref t, rfl, cons_any (op_go ?_)⟩)
        refine go (v := .int (2 + wy)) (Evl.ev_op Evl.ev_c (Evl.ev_var rfl) Evl.rv_I0) fun H6 e6 => ?_
        refine ⟨.ref t, rfl, t, c, 3, n + 3 + 2 * i', rfl, T'.ex e6, by omega, by omega, by omega, fun z H7 z0 z1 k7 T7 => ⟨2 + wy, z, rfl, rfl, t, c, 2 + wy + z, n + 3 + 2 * i' + 1, rfl, T7, by omega, by omega, by omega, fun y H8 y0 y1 k8 T8 => ?_⟩⟩
        have k68 : Kept t H' H8 := ((Kept.of e6).trans k7).trans k8
        refine ⟨ms.map V.int, k68 _ _ Wt l3, Evl.sz_lt (by rw [List.length_map]; omega), ms ++ [y], by rw [List.length_append, List.length_singleton, l1], fun w hw => ?_, ?_, (T8.mono (by omega)).upd Wt Wc, kept_mut (k'.trans k68) W0⟩
        · rcases List.mem_append.mp hw with hw | hw
          · exact l2 w hw
          · rw [List.mem_singleton.mp hw]; exact y0
        · rw [List.map_append]
          exact upd_same
      · rintro H' ⟨ms, l1, l2, l3, T', k'⟩
        exact q W ms H' ⟨l3, W0, l2, by omega, T'.mono (by omega), k'⟩
    have dw := dw.ex e5
    clear e5
    refine Evl.q_when (b := decide (V.int wy = V.int 2)) (Evl.et_test (Evl.ev_op (Evl.ev_var rfl) Evl.ev_c (Evl.rv_eq rfl))) (fun hb2 H6 e6 => ?_) (fun hb2 H6 e6 => ?_)
    · have d6 := dw.ex e6
      refine Evl.s_retL (el_stretch (K := K) (ns := W47.W2.take 30) (b := b) (m := m) (eu_plain (m := 30) (Evl.ea_cons Evl.ev_c Evl.ea_nil) (by omega)) (Evl.ev_var rfl) (Evl.ev_op (Evl.ev_var rfl) (Evl.ev_var rfl) Evl.rv_I0) (by
        rw [List.length_take, W47.len_last]
        omega)) fun r H7 hr7 e7 h7 => ?_
      refine q r _ H7 ⟨h7, kept_fresh d6.kept hT d6.tub hr7, fun z hz => zs_pos _ z (List.mem_of_mem_drop (List.mem_of_mem_take hz)), ?_, (d6.tub.ex e7).mono (by omega), d6.kept.trans (Kept.of e7)⟩
      rw [List.length_take]
      omega
    have dw := dw.ex e6
    clear e6
    refine Evl.q_cut (M := fun σ' H' => ∃ ws', ws'.length = m ∧ σ' = [some (.ref t), some (.int wy), some (.int (m : Int)), some (.int (b : Int)), some (.ref p4), none, none] ∧ DW H t c (n + 5) p4 ws' H') ?_ ?_
    · refine Evl.s_when (b := decide (V.int wy = V.int 3) && !ws.isEmpty) (Evl.et_and (Evl.et_test (Evl.ev_op (Evl.ev_var rfl) Evl.ev_c (Evl.rv_eq rfl))) fun _ => Evl.et_test (ev_neNil (cs := ws) (Evl.ev_var rfl) (Evl.sq_of dw.at_))) (fun hb3 H7 e7 => ?_) (fun hb3 H7 e7 => ?_)
      · have d7 := dw.ex e7
        have hm1 : 1 ≤ m := by
          have := (Bool.and_eq_true_iff.mp hb3).2
          cases ws with
          | nil => cases this
          | cons a r => rw [← hlen, List.length_cons]; omega
        refine ⟨.ref t, rfl, t, c, 5, n + 3, rfl, d7.tub, by omega, by omega, by omega, fun z H8 z0 z1 k8 T8 => ⟨.ref p4, rfl, .ref t, rfl, .int (m : Int), rfl, t, c, (m : Int), n + 4, rfl, T8, by omega, by omega, by omega, fun j H9 j0 j1 k9 T9 => ?_⟩⟩
        obtain ⟨j, rfl⟩ : ∃ j' : Nat, j = (j' : Int) := ⟨j.toNat, by omega⟩
        have d9 := (d7.draw hT k8 T8).draw hT k9 T9
        refine ⟨p4, ws.map V.int, (j : Int), j, rfl, rfl, d9.at_, Evl.ixN_nat (by rw [List.length_map]; omega), ws.set j z, by rw [List.length_set]; exact hlen, rfl, ?_, d9.new, fun w hw => ?_, by rw [List.length_set]; omega, d9.tub.upd (hT.ne d9.new).1 ?_, kept_mut d9.kept d9.new⟩
        · rw [List.map_set]
          exact upd_same
        · rcases List.mem_or_eq_of_mem_set hw with h | h
          · exact d9.pos w h
          · rw [h]; exact z0
        · exact (hT.ne d9.new).2
      · exact ⟨ws, hlen, rfl, (dw.ex e7).mono (by omega)⟩
    · rintro σ' H' ⟨ws', hlen', rfl, dw'⟩
      refine Evl.q_when (b := decide (V.int wy = V.int 4) && decide ((2 : Int) < (m : Int))) (Evl.et_and (Evl.et_test (Evl.ev_op (Evl.ev_var rfl) Evl.ev_c (Evl.rv_eq rfl))) fun _ => Evl.et_test (Evl.ev_op (Evl.ev_var rfl) Evl.ev_c Evl.rv_I0)) (fun hb3 H7 e7 => ?_) (fun hb3 H7 e7 => ?_)
      · have hm2 := of_decide_eq_true (Bool.and_eq_true_iff.mp hb3).2
        have d7 := dw'.ex e7
        refine asg_go (call_raw (cons_any ⟨.ref t, rfl, cons_any (go (v := .int ((m : Int) - 1)) (Evl.ev_op (Evl.ev_var rfl) Evl.ev_c Evl.rv_I0) fun H8 e8 => ⟨t, c, (m : Int) - 1, n + 5, rfl, d7.tub.ex e8, by omega, by omega, by omega, fun j H9 j0 j1 k9 T9 => ?_⟩)⟩))
        obtain ⟨j, rfl⟩ : ∃ j' : Nat, j = (j' : Int) := ⟨j.toNat, by omega⟩
        have d9 := (d7.ex e8).draw hT k9 T9
        dsimp only [List.set_cons_zero, List.set_cons_succ]
        have sq := Evl.sq_of (K := K) d9.at_
        refine Evl.s_asgL (xs := (ws'.take j ++ [ws'.getD (j + 1) 0, ws'.getD j 0] ++ ws'.drop (j + 2)).map V.int) ?_ fun r H10 hr10 e10 h10 => ?_
        · rw [List.map_append, List.map_append, List.map_take, List.map_drop, ← cutTo', ← cutFrom]
          refine el_catN (el_catN (Evl.el_sl (Evl.ev_var rfl) Evl.eo_none (Evl.eo_some (Evl.ev_var rfl)) sq) (Evl.el_lst (Evl.ea_cons (Evl.ev_op (Evl.ev_var rfl) (Evl.ev_op (Evl.ev_var rfl) Evl.ev_c Evl.rv_I0) (Evl.rv_ixL sq (w_at (i := j + 1) (by omega)))) (Evl.ea_cons (Evl.ev_op (Evl.ev_var rfl) (Evl.ev_var rfl) (Evl.rv_ixL sq (w_at (i := j) (by omega)))) Evl.ea_nil)) (by show 2 ≤ 100000; decide)) ?_) (Evl.el_sl (Evl.ev_var rfl) (Evl.eo_some (Evl.ev_op (Evl.ev_var rfl) Evl.ev_c Evl.rv_I0)) Evl.eo_none sq) ?_
          all_goals
            simp only [List.length_append, List.length_map, List.length_cons, List.length_nil, cutTo', cutFrom, List.length_take, List.length_drop]
            omega
        · refine ⟨.ref r, rfl, q r _ H10 ⟨h10, kept_fresh d9.kept hT d9.tub hr10, fun w hw => ?_, ?_, (d9.tub.ex e10).mono (by omega), d9.kept.trans (Kept.of e10)⟩⟩
          · rcases List.mem_append.mp hw with hw | hw
            · rcases List.mem_append.mp hw with hw | hw
              · exact d9.pos w (List.mem_of_mem_take hw)
              · simp only [List.mem_cons, List.not_mem_nil, or_false] at hw
                rcases hw with rfl | rfl
                · rw [List.getD_eq_getElem?_getD, List.getElem?_eq_getElem (by omega)]
                  exact d9.pos _ (List.getElem_mem _)
                · rw [List.getD_eq_getElem?_getD, List.getElem?_eq_getElem (by omega)]
                  exact d9.pos _ (List.getElem_mem _)
            · exact d9.pos w (List.mem_of_mem_drop hw)
          · simp only [List.length_append, List.length_take, List.length_drop, List.length_cons, List.length_nil]
            omega
      · exact Evl.s_ret (Evl.ev_var rfl) fun H8 e8 => q p4 ws' H8 (((dw'.ex e7).ex e8).mono (by omega))
end
end P51
end S_Oc
section S_Xu
/-! dicts whose keys are tuples of ints, truths, texts, None, and whose values are True -/
namespace NK
open PySem PySem.Spec PyProof.Rows L2
def nk : V → NestedKey
  | .int i => .num i
  | .bl b => .num (if b = true then 1 else 0)
  | .str s => .text s
  | _ => .none
def okV : V → Prop
  | .non => True
  | .int _ => True
  | .bl _ => True
  | .str _ => True
  | _ => False
def nkey (vs : List V) : NestedKey := .tup (vs.map nk)
def trip (P : Program) (w : World) (x : List V × Addr) : NestedKey × Addr × Value := (nkey x.1, x.2, .bool true)
def DN (P : Program) (w : World) (a : Addr) (xs : List (List V × Addr)) : HO := .ext fun h => (a == sysModules) = false ∧ ∃ o es ep, h.get? a = some o ∧ o.ExactDict ∧ o.data = .dict es ep ∧
  es.toList = (xs.map (trip P w)).map (entryOfKey (nestedKind P w)) ∧ ((xs.map (trip P w)).map (·.1)).Nodup
def KeysAt (H : Hp) (xs : List (List V × Addr)) : Prop := ∀ x ∈ xs, (∀ v ∈ x.1, okV v) ∧ H x.2 = some (.tup x.1)
theorem nested_all {h : Heap} : ∀ {vs : List V} {us : List Value}, Vals vs us → (∀ v ∈ vs, okV v) → NestedAll h (vs.map nk) us
  | [], _, r, _ => by cases r; exact .nil
  | v :: vs, _, r, ok => by
    cases r with
    | @cons _ u _ us r1 r2 =>
      refine .cons ?_ (nested_all r2 fun v hv => ok v (List.mem_cons_of_mem _ hv))
      have o := ok v List.mem_cons_self
      cases v with
      | non => cases (show u = Value.none from r1); exact .none
      | bl b => cases (show u = Value.bool b from r1); exact .bool rfl
      | int i => obtain ⟨t, e⟩ := (show ∃ t, u = Value.int i t from r1); subst e; exact .int _ _
      | str s => obtain ⟨t, e⟩ := (show ∃ t, u = Value.str s t from r1); subst e; exact .text _ _
      | _ => exact o.elim
theorem depth_all : ∀ (vs : List V), NestedKey.depthAll (vs.map nk) = 0
  | [] => rfl
  | v :: vs => by
    rw [List.map_cons, NestedKey.depthAll, depth_all vs]
    cases v <;> rfl
theorem key_is {P : Program} {w : World} {H : Hp} {h : Heap} {a : Addr} {vs : List V} (ok : HOk P w H h) (e : H a = some (.tup vs)) (o : ∀ v ∈ vs, okV v) : (nestedKind P w).is h (nkey vs) a := by
  obtain ⟨_, its, r, ob, h1, h2, n, h3⟩ := (show ObjOk P w H h a (.tup vs) from ok a _ e)
  refine ⟨.tup h1 h2 h3 (by simpa using nested_all r o), ?_⟩
  show NestedKey.depth (.tup (vs.map nk)) ≤ 8
  rw [NestedKey.depth, depth_all]
  decide
theorem dn_of {P : Program} {w : World} {H : Hp} {h : Heap} {a : Addr} {xs : List (List V × Addr)} (ok : HOk P w H h) (e : H a = some (DN P w a xs)) (kk : KeysAt H xs) : (a == sysModules) = false ∧ h.DictOfH (nestedKind P w) a (xs.map (trip P w)) := by
  obtain ⟨⟨hd, o, es, ep, h1, h2, h3, h4, h5⟩, _⟩ := (show ObjOk P w H h a (DN P w a xs) from ok a _ e)
  refine ⟨hd, o, es, ep, h1, h2, h3, h4, fun x hx => ?_, h5⟩
  obtain ⟨y, hy, rfl⟩ := List.mem_map.mp hx
  obtain ⟨k1, k2⟩ := kk y hy
  exact key_is ok k2 k1
theorem dn_new {P : Program} {w : World} {H : Hp} {h : Heap} {a : Addr} {xs : List (List V × Addr)} (hd : (a == sysModules) = false) (d : h.DictOfH (nestedKind P w) a (xs.map (trip P w))) : ObjOk P w H h a (DN P w a xs) := by
  obtain ⟨o, es, ep, h1, h2, h3, h4, _, h5⟩ := d
  refine ⟨⟨hd, o, es, ep, h1, h2, h3, h4, h5⟩, ⟨o, h1⟩, fun h1' h2' hφ k => ?_⟩
  obtain ⟨hd, o, es, ep, g1, g2⟩ := hφ
  exact ⟨hd, o, es, ep, k o g1, g2⟩
def hasN (xs : List (List V × Addr)) (ks : List V) : Bool := xs.any fun x => decide (nkey x.1 = nkey ks)
theorem atKey_has {P : Program} {w : World} {xs : List (List V × Addr)} {ks : List V} : (atKey (xs.map (trip P w)) (nkey ks)).isSome = hasN xs ks := by
  induction xs with
  | nil => rfl
  | cons x xs ih =>
    unfold hasN at ih ⊢
    rw [List.any_cons, ← ih]
    unfold atKey
    rw [List.map_cons, List.find?_cons]
    by_cases q : nkey x.1 = nkey ks
    · have : decide ((trip P w x).1 = nkey ks) = true := decide_eq_true q
      rw [this, decide_eq_true q]
      rfl
    · have : decide ((trip P w x).1 = nkey ks) = false := decide_eq_false q
      rw [this, decide_eq_false q]
      rfl
/-- y not in d -/
def tNNotIn (P : Program) (w : World) (ty td : TE) : TE := fun σ H Q => ty σ H fun y H1 => td σ H1 fun x H2 => ∃ a b ks xs, x = .ref a ∧ y = .ref b ∧ H2 a = some (DN P w a xs) ∧ KeysAt H2 xs ∧ (∀ v ∈ ks, okV v) ∧ H2 b = some (.tup ks) ∧ Q (.bl (!(hasN xs ks))) H2
/-- d[y] = True, y not there -/
def sNPut (P : Program) (w : World) (td ty tv : TE) : TS := fun D σ H => tv σ H fun v H1 => td σ H1 fun x H2 => ty σ H2 fun y H3 => ∃ a b ks xs, v = .bl true ∧ x = .ref a ∧ y = .ref b ∧ H3 a = some (DN P w a xs) ∧ KeysAt H3 xs ∧ (∀ v ∈ ks, okV v) ∧ H3 b = some (.tup ks) ∧
  hasN xs ks = false ∧ xs.length < 100000 ∧ D.nx σ (upd H3 a (DN P w a (xs ++ [(ks, b)])))
/-- {y: True} -/
def tNOne (P : Program) (w : World) (ty tv : TE) : TE := fun σ H Q => ∀ p, H p = none → ty σ (upd H p (DN P w p [])) fun y H1 => tv σ H1 fun v H2 => ∃ b ks, v = .bl true ∧ y = .ref b ∧ H2 p = some (DN P w p []) ∧ (∀ v ∈ ks, okV v) ∧ H2 b = some (.tup ks) ∧
  Q (.ref p) (upd H2 p (DN P w p [(ks, b)]))
section
variable {X : Cx} {o i value k : Expr} {pos pos' : Pos} {td ty tv : TE}
theorem hu9 {A : Around} (hu : A.units + 64 < cLine) : (nestedKind P w).room A.in1 := by
  show A.in1.units + 8 < cLine
  rw [Around.in1_units]
  omega
theorem hu8 {A : Around} (hu : A.units + 64 < cLine) : (nestedKind P w).room A := by
  show A.units + 8 < cLine
  omega
theorem pc_nnotin (hu : X.A.units + 64 < cLine) (hi : PE X i ty) (ho : PE X o td) : PC X .NotIn i o (tNNotIn X.prog X.w ty td) := by
  refine ⟨fun pins s σ H Q I h => ?_⟩
  refine thn (hi.run pins s σ H _ I h) fun iv s1 ⟨y, H1, I1, ry, q1⟩ => thn (ho.run pins s1 σ H1 _ I1 q1) fun u s2 ⟨x, H2, I2, rx, a, b, ks, xs, ex, ey, e, kk, ok, eb, q2⟩ => ?_
  subst ex ey
  obtain rfl : u = Value.ref a := rx
  obtain rfl : iv = Value.ref b := ry
  obtain ⟨hd, dd⟩ := dn_of I2.hok e kk
  refine wpAny_notIn_heap (hu9 hu) (key_is I2.hok eb ok) hd dd ?_
  rw [atKey_has]
  exact ⟨.bl (!hasN xs ks), H2, I2.tok _, rfl, q2⟩
theorem ps_nput (hu : X.A.units + 64 < cLine) (ho : PE X o td) (hi : PE X i ty) (hv : PE X value tv) (hs : swapsWith value (some (.Subscript o i pos')) pos.line X.env = pure false) :
    PS X (.Assign [.Subscript o i pos'] value pos) (sNPut X.prog X.w td ty tv) := by
  refine ⟨fun pins s σ H D I h => ?_⟩
  refine wpAny_Assign_Subscript (thn (hv.run pins s σ H _ I h) fun r s1 ⟨v, H1, I1, rv, q1⟩ => thn (ho.run pins s1 σ H1 _ I1 q1) fun u s2 ⟨x, H2, I2, rx, q2⟩ => thn (hi.run pins s2 σ H2 _ I2 q2) fun iv s3 ⟨y, H3, I3, ry, a, b, ks, xs, ev, ex, ey, e, kk, ok, eb, hf, hl, q3⟩ => ?_) hs
  subst ex ey ev
  obtain rfl : u = Value.ref a := rx
  obtain rfl : iv = Value.ref b := ry
  obtain rfl : r = Value.bool true := rv
  obtain ⟨hd, dd⟩ := dn_of I3.hok e kk
  refine wpAny_setItem_heap (hsz := by rw [List.length_map, sizeLine_eq]; omega) (hu9 hu) (key_is I3.hok eb ok) dd fun h' dd' hs => ?_
  have e2 : storedH (xs.map (trip X.prog X.w)) (nkey ks) b (Value.bool true) = (xs ++ [(ks, b)]).map (trip X.prog X.w) := by
    have := atKey_has (P := X.prog) (w := X.w) (xs := xs) (ks := ks)
    rw [hf] at this
    rw [storedH_new (Option.not_isSome_iff_eq_none.mp (by rw [this]; exact Bool.false_ne_true)), List.map_append]
    rfl
  rw [e2] at dd'
  refine ⟨σ, _, ?_, q3⟩
  have he : ∃ q, h'.get? a = some q := let ⟨q, _, _, hq, _⟩ := dd'; ⟨q, hq⟩
  exact d_write I3 (by rw [e]; exact True.intro) hs he (dn_new hd dd')
theorem pe_none1 (hu : X.A.units + 64 < cLine) (hk : PE X k ty) (hv : PE X value tv) : PE X (.Dict [some k] [value] pos) (tNOne X.prog X.w ty tv) := by
  refine ⟨fun pins s σ H Q I q => ?_⟩
  have hn := I.hok.fresh (Nat.le_refl s.heap.objs.size)
  have hb : (s.heap.objs.size == sysModules) = false := beq_eq_false_iff_ne.mpr (Ne.symm (Nat.ne_of_lt I.big))
  have I1 := I.laid (a := s.heap.objs.size) (o := DN X.prog X.w s.heap.objs.size []) (h' := s.heap.push { cls := .type "dict", data := .dict #[] }) (t' := s.toks) (fun _ _ q => Heap.get?_push_of_some _ q) (Nat.le_refl _)
    (dn_new hb ⟨_, #[], 0, Heap.get?_push_size _ rfl, ⟨rfl, rfl, rfl⟩, rfl, rfl, fun x hx => (nomatch hx), List.nodup_nil⟩)
  have pl : (pairTrees [some k] [value] X.env pos).length = 1 := rfl
  rw [arm_eval_Dict, zip_pairTrees [some k] [value] X.env pos rfl rfl, dictDisplay_pairs (pairTrees [some k] [value] X.env pos) (fun z => by rw [z] at pl; cases pl) (by rw [pl]; decide)]
  refine wpAny_bind (wpAny_standAt (wpAny_bind (wpAny_subDictH (knd := nestedKind X.prog X.w) (hu8 hu) (by rw [pl]; decide) ?_)))
  refine pairTrees_cons_walk (thn (hk.run pins _ σ _ _ I1 (q _ hn)) fun u s1 ⟨y, H1, I2, ry, q1⟩ => thn (hv.run pins s1 σ H1 _ I2 q1) fun w2 s2 ⟨v, H2, I3, rv, b, ks, ev, ey, ep, ok, eb, q2⟩ => pairTrees_nil_walk ?_)
  subst ev ey
  obtain rfl : u = Value.ref b := ry
  obtain rfl : w2 = Value.bool true := rv
  obtain ⟨hd, dd⟩ := dn_of I3.hok ep (fun x hx => nomatch hx)
  refine ⟨[(nkey ks, b, .bool true)], ⟨rfl, rfl, key_is I3.hok eb ok, trivial⟩, dd, fun h' tk dd' hs => wpAny_pure ⟨.ref s.heap.objs.size, _, ?_, rfl, q2⟩⟩
  have he : ∃ q, h'.get? s.heap.objs.size = some q := let ⟨q, _, _, hq, _⟩ := dd'; ⟨q, hq⟩
  exact d_write I3 (by rw [ep]; exact True.intro) hs he (dn_new hd (xs := [(ks, b)]) dd')
end
end NK
end S_Xu
section S_Tq
namespace P51
open PySem PySem.Spec PyProof.Rows L2 Tl Hk NK W50 Go
abbrev nStray : List Str := ["colours", "many", "one", "other", "row", "at", "known", "pair", "first", "second", "step", "place"]
theorem scLStray : FnScope nStray ["colours"] (defScope sLStray) := ⟨rfl, rfl, rfl, by decide +kernel, rfl, by decide +kernel, by decide +kernel⟩
/-- a pair as a tuple -/
def tv (t : Tr) : List V := [.int t.1, .int t.2.1, .bl t.2.2]
theorem nkey_tv {t u : Tr} (h : nkey (tv t) = nkey (tv u)) : t = u := by
  obtain ⟨x, y, f⟩ := t
  obtain ⟨x', y', f'⟩ := u
  have e := NestedKey.tup.inj h
  simp only [tv, List.map_cons, List.map_nil, nk, List.cons.injEq, NestedKey.num.injEq, and_true] at e
  obtain ⟨e1, e2, e3⟩ := e
  subst e1 e2
  cases f <;> cases f' <;> first | rfl | (exfalso; revert e3; decide)
theorem tv_ok (t : Tr) : ∀ v ∈ tv t, okV v := fun v hv => by
  simp only [tv, List.mem_cons, List.not_mem_nil, or_false] at hv
  rcases hv with rfl | rfl | rfl <;> trivial
def ents (ts : List Tr) (as : List Addr) : List (List V × Addr) := (ts.zip as).map fun p => (tv p.1, p.2)
theorem ents_has {ts : List Tr} {as : List Addr} (h : as.length = ts.length) (u : Tr) : hasN (ents ts as) (tv u) = decide (u ∈ ts) := by
  unfold hasN ents
  induction ts generalizing as with
  | nil => rfl
  | cons t ts ih =>
    cases as with
    | nil => cases h
    | cons a as =>
      have ih := ih (as := as) (Nat.succ.inj h)
      rw [List.zip_cons_cons, List.map_cons, List.any_cons, ih]
      by_cases e : u = t
      · rw [e, decide_eq_true rfl, Bool.true_or, decide_eq_true List.mem_cons_self]
      · rw [decide_eq_false (fun z => e (nkey_tv z).symm), Bool.false_or]
        refine decide_eq_decide.mpr ⟨List.mem_cons_of_mem _, fun z => (List.mem_cons.mp z).resolve_left e⟩
/-- the row and what is known of it -/
structure RowAt (P : Program) (w : World) (H : Hp) (R Kn : Addr) (as : List Addr) (ts : List Tr) : Prop where
  row : H R = some (.lst (as.map V.ref))
  kn : H Kn = some (DN P w Kn (ents ts as))
  len : as.length = ts.length
  each : ∀ (j : Nat) (a : Addr) (t : Tr), as[j]? = some a → ts[j]? = some t → H a = some (.tup (tv t))
theorem RowAt.ex {P : Program} {w : World} {H H' : Hp} {R Kn : Addr} {as : List Addr} {ts : List Tr} (h : RowAt P w H R Kn as ts) (e : Evl.Ex H H') : RowAt P w H' R Kn as ts :=
  ⟨e _ _ h.row, e _ _ h.kn, h.len, fun j a t a1 a2 => e _ _ (h.each j a t a1 a2)⟩
theorem RowAt.keys {P : Program} {w : World} {H : Hp} {R Kn : Addr} {as : List Addr} {ts : List Tr} (h : RowAt P w H R Kn as ts) : KeysAt H (ents ts as) := fun x hx => by
  obtain ⟨p, hp, rfl⟩ := List.mem_map.mp hx
  refine ⟨tv_ok _, ?_⟩
  obtain ⟨j, hj⟩ := List.mem_iff_getElem?.mp hp
  rw [List.getElem?_zip_eq_some] at hj
  exact h.each j p.2 p.1 hj.2 hj.1
theorem RowAt.push {P : Program} {w : World} {H H1 : Hp} {R Kn S : Addr} {as : List Addr} {ts : List Tr} {u : Tr} (h : RowAt P w H R Kn as ts) (hS : H S = some (.tup (tv u))) (e : Evl.Ex (upd H Kn (DN P w Kn (ents ts as ++ [(tv u, S)]))) H1) :
    RowAt P w (upd H1 R (.lst (as.map V.ref ++ [.ref S]))) R Kn (as ++ [S]) (ts ++ [u]) := by
  have rk : R ≠ Kn := fun z => by
    have := h.row
    rw [z, h.kn] at this
    cases this
  have nt : ∀ {a : Addr} {t : Tr}, H a = some (.tup (tv t)) → a ≠ R ∧ a ≠ Kn := fun {a t} h2 => by
    constructor
    · intro z
      rw [z, h.row] at h2
      cases h2
    · intro z
      rw [z, h.kn] at h2
      cases h2
  refine ⟨by rw [upd_same, List.map_append] <;> rfl, ?_, by rw [List.length_append, List.length_append, h.len] <;> rfl, fun j a t a1 a2 => ?_⟩
  · rw [upd_ne rk.symm]
    refine e _ _ ?_
    rw [upd_same]
    unfold ents
    rw [List.zip_append h.len.symm, List.map_append]
    rfl
  · have hh : H a = some (.tup (tv t)) := by
      rcases Nat.lt_or_ge j as.length with hj | hj
      · rw [List.getElem?_append_left hj] at a1
        rw [List.getElem?_append_left (by rw [← h.len]; exact hj)] at a2
        exact h.each j a t a1 a2
      · rw [List.getElem?_append_right hj] at a1
        rw [List.getElem?_append_right (by rw [← h.len]; exact hj), ← h.len] at a2
        have e0 : j - as.length = 0 := by
          have := (List.getElem?_eq_some_iff.mp a1).1
          simp at this
          omega
        rw [e0] at a1 a2
        cases a1
        cases a2
        exact hS
    rw [upd_ne (nt hh).1]
    refine e _ _ ?_
    rw [upd_ne (nt hh).2]
    exact hh
theorem ev_min2 {σ : L2.St} {H : Hp} {ta tb : TE} {i j : Int} (ha : Evl.Ev ta σ H (.int i)) (hb : Evl.Ev tb σ H (.int j)) : Evl.Ev (tCB (fun xs H Q => ∃ i j, xs = [V.int i, V.int j] ∧ Q (V.int (if j < i then j else i)) H) (tCons ta (tCons tb tNil))) σ H (.int (if j < i then j else i)) := fun H1 e Q q =>
  ha H1 e _ fun H2 e2 => hb H2 (e.trans e2) _ fun H3 e3 => ⟨i, j, rfl, q H3 (e2.trans e3)⟩
theorem ev_max2 {σ : L2.St} {H : Hp} {ta tb : TE} {i j : Int} (ha : Evl.Ev ta σ H (.int i)) (hb : Evl.Ev tb σ H (.int j)) : Evl.Ev (tCB (fun xs H Q => ∃ i j, xs = [V.int i, V.int j] ∧ Q (V.int (if j > i then j else i)) H) (tCons ta (tCons tb tNil))) σ H (.int (if j > i then j else i)) := fun H1 e Q q =>
  ha H1 e _ fun H2 e2 => hb H2 (e.trans e2) _ fun H3 e3 => ⟨i, j, rfl, q H3 (e2.trans e3)⟩
def spLStray (K : PySem.W.Frag) : Sp := fun vs H Q _ => ∃ (a : Addr) (ws : List Int), vs = [.ref a] ∧ SqS K H a (ws.map V.int) ∧ ws.length ≤ 40 ∧ ∀ H1, Evl.Ex H H1 → (Strayed ws → Q (.bl true) H1) ∧ (¬ Strayed ws → Q (.bl false) H1)
section
variable {P : Program} {w : World} {K : PySem.W.Frag} {mg : Str → Option Value} {base : Heap}
abbrev ttSame (K : PySem.W.Frag) : TT := tTest (tOp rEq (tOp (rIxB K) (tVar 0) (tVar 11)) (tOp (rIxB K) (tVar 0) (tVar 2)))
theorem ok_lstray {f : Addr} {fd : FuncData} {k : Nat} (F : Fun K "_law_stray" "_law_stray" sLStray f fd)
    (mlen : mg "len" = none) (mrange : mg "range" = none) (mabs : mg "abs" = none) (mmax : mg "max" = none) (mmin : mg "min" = none) : FnOk P w K mg base CX0 (k + 1) f fd ["colours"] (spLStray K) := by
  refine F.ok scLStray (fun vs H Q E h => ?_) (fun cdv A outer s H vs Q E hr h => ?_)
  · obtain ⟨a, ws, rfl, _⟩ := h
    rfl
  · obtain ⟨a, ws, rfl, hS, hl, q⟩ := h
    have nd := scLStray.nd
    refine ⟨_, pss_cons (ps_set (i := 1) nd rfl (.inl rfl) (pe_callB call_len_seq (by rfl) mlen PySem.boot_len (pa_cons (pv 0) (pa_nil)))) (pss_cons (ps_for PassesOwn.never rfl (pi_range1 (by rfl) mrange (pa_cons (pv 1) (pa_nil))) (pg_name (i := 2) nd rfl (Or.inr rfl)) (pss_one (ps_for PassesOwn.never rfl (pi_list (pe_lc (own := [("place", 11)]) (g := gName 11) (tt := ttSame K) (te := tVar 11) rfl nd (pi_range1 (by rfl) mrange (pa_cons (pv 1) (pa_nil))) (blkOk_by (N := nStray) (sc := defScope sLStray) (by decide +kernel)) (fun _ _ _ _ _ => pg_name (i := 11) nd rfl (Or.inl rfl)) (fun _ _ _ _ _ => pts_one (pt_cmpR op_eq (pe_ix ix_any2 (pv 0) (pv 11) (fun _ _ => rfl)) (pe_ix ix_any2 (pv 0) (pv 2) (fun _ _ => rfl)) (nomark _))) (fun _ _ _ _ _ => pv 11))) (pg_name (i := 3) nd rfl (Or.inl rfl)) (pss_cons (ps_par (i := 4) (j := 5) (by rfl) nd rfl rfl (by decide) rfl rfl (pa_cons (pe_lst (pa_cons (pe_tup (pa_cons (pv 2) (pa_cons (pv 3) (pa_cons (pe_cmpR op_ne (pv 2) (pv 3) (nomark _)) (pa_nil))))) (pa_nil))) (pa_cons (pe_int) (pa_nil))) (by rfl)) (pss_cons (ps_set (i := 6) nd rfl (.inl rfl) (pe_none1 hr.units (pe_ix ix_list (pv 4) (pe_int) (fun _ _ => rfl)) pe_bl)) (pss_one (ps_while PassesOwn.never (pt_cmpR op_lt (pv 5) (pe_callB call_len_seq (by rfl) mlen PySem.boot_len (pa_cons (pv 4) (pa_nil))) (nomark _)) (pss_cons (ps_set (i := 7) nd rfl (.inl rfl) (pe_ix ix_list (pv 4) (pv 5) (fun _ _ => rfl))) (pss_cons (ps_set (i := 5) nd rfl (.inl rfl) (pe_op op_add (pv 5) (pe_int))) (pss_cons (ps_if (PW.pt (pw_and (pt_val (pe_ix ix_tup (pv 7) (pe_int) (fun _ _ => rfl))) (pw_and1 (pt_cmpR op_lt (pe_callB call_abs (by rfl) mabs (by decide +kernel) (pa_cons (pe_op op_sub (pe_ix ix_tup (pv 7) (pe_int) (fun _ _ => rfl)) (pv 3)) (pa_nil))) (pe_int) (nomark _))))) (pss_one (ps_ret (pe_bl))) (pss_nil)) (pss_one (ps_for PassesOwn.never rfl (pi_range2 (by rfl) mrange (pa_cons (pe_callB (call_max2 rfl) (by rfl) mmax (by decide +kernel) (pa_cons (pe_int) (pa_cons (pe_op op_sub (pe_ix ix_tup (pv 7) (pe_int) (fun _ _ => rfl)) (pe_int)) (pa_nil)))) (pa_cons (pe_callB (call_min2 rfl) (by rfl) mmin (by decide +kernel) (pa_cons (pv 1) (pa_cons (pe_op op_add (pe_ix ix_tup (pv 7) (pe_int) (fun _ _ => rfl)) (pe_int)) (pa_nil)))) (pa_nil)))) (pg_name (i := 8) nd rfl (Or.inl rfl)) (pss_one (ps_for PassesOwn.never rfl (pi_range2 (by rfl) mrange (pa_cons (pe_callB (call_max2 rfl) (by rfl) mmax (by decide +kernel) (pa_cons (pe_int) (pa_cons (pe_op op_sub (pe_ix ix_tup (pv 7) (pe_int) (fun _ _ => rfl)) (pe_int)) (pa_nil)))) (pa_cons (pe_callB (call_min2 rfl) (by rfl) mmin (by decide +kernel) (pa_cons (pv 1) (pa_cons (pe_op op_add (pe_ix ix_tup (pv 7) (pe_int) (fun _ _ => rfl)) (pe_int)) (pa_nil)))) (pa_nil)))) (pg_name (i := 9) nd rfl (Or.inl rfl)) (pss_cons (ps_set (i := 10) nd rfl (.inl rfl) (pe_tup (pa_cons (pv 8) (pa_cons (pv 9) (pa_cons (pe_or (pe_ix ix_tup (pv 7) (pe_int) (fun _ _ => rfl)) (pe_one (pe_cmpR op_ne (pv 8) (pv 9) (nomark _)))) (pa_nil)))))) (pss_one (ps_if (PW.pt (pw_and (pt_cmpR op_eq (pe_ix ix_any2 (pv 0) (pv 8) (fun _ _ => rfl)) (pe_ix ix_any2 (pv 0) (pv 9) (fun _ _ => rfl)) (nomark _)) (pw_and1 (pt_cmp (pc_nnotin hr.units (pv 10) (pv 6)))))) (pss_cons (ps_nput hr.units (pv 6) (pv 10) pe_bl rfl) (pss_one (ps_expr (pe_bm PySem.F.plainAttrs_list PySem.F.slot_list_append PySem.F.type_list_append mt_append (pv 4) (pa_cons (pv 10) (pa_nil)))))) (pss_nil)))))))))))))))))) (pss_one (ps_ret (pe_bl)))), ?_⟩
    have hlen : (ws.map V.int).length = ws.length := List.length_map _
    have colAt : ∀ {i : Int} {G : Hp}, 0 ≤ i → i < ws.length → Evl.Ex H G → Evl.RV (rIxB K) (.ref a) (.int i) G (.int (colZ ws i)) := fun {i G} h0 h1 e => by
      have := rv_ixB (i := ((i.toNat : Nat) : Int)) (hS.ex e) (w_at (ws := ws) (i := i.toNat) (by omega))
      rw [Int.toNat_of_nonneg h0] at this
      exact this
    refine Evl.q_asg (v := .int (ws.length : Int)) (Evl.ev_is (ev_lenS (Evl.ev_var rfl) hS) (by rw [hlen])) fun H1 e1 => ?_
    refine Evl.q_forR1 (n := (ws.length : Int)) (Evl.ea_cons (Evl.ev_var rfl) Evl.ea_nil) ⟨by omega, by omega⟩ (fun i σ' H' => ∃ y2 y3 y4 y5 y6 y7 y8 y9 y10, σ' = [some (.ref a), some (.int (ws.length : Int)), y2, y3, y4, y5, y6, y7, y8, y9, y10, none] ∧ Evl.Ex H H' ∧ ∀ o < i, ∀ p < ws.length, colZ ws o = colZ ws p → ¬ StrayP ws o p)
      (fun H2 e2 => ⟨_, _, _, _, _, _, _, _, _, rfl, e1.trans e2, fun o ho => absurd ho (Nat.not_lt_zero _)⟩) ?_ ?_
    · rintro i σ' H2 hi ⟨y2, y3, y4, y5, y6, y7, y8, y9, y10, rfl, e2, ns⟩
      have hi2 : i < ws.length := by omega
      refine Evl.s_forNL (xs := Evl.given ws.length (fun p : Nat => decide (colZ ws (p : Int) = colZ ws (i : Int))) fun p => .int (p : Int)) ?_ (fun L j σ' H' => ∃ y3 y4 y5 y6 y7 y8 y9 y10, σ' = [some (.ref a), some (.int (ws.length : Int)), some (.int (i : Int)), y3, y4, y5, y6, y7, y8, y9, y10, none] ∧ Evl.Ex H H' ∧
          H' L = some (.lst (Evl.given ws.length (fun p : Nat => decide (colZ ws (p : Int) = colZ ws (i : Int))) fun p => .int (p : Int))) ∧ ∀ j' < j, ∀ p : Nat, (Evl.given ws.length (fun p : Nat => decide (colZ ws (p : Int) = colZ ws (i : Int))) fun p => .int (p : Int))[j']? = some (.int (p : Int)) → ¬ StrayP ws i p)
        (fun L H3 hL e3 h3 => ⟨_, _, _, _, _, _, _, _, rfl, e2.trans e3, h3, fun j' hj' => absurd hj' (Nat.not_lt_zero _)⟩) (fun L j σ' H' _ ⟨_, _, _, _, _, _, _, _, _, _, h, _⟩ => Evl.sq_of h) ?_ ?_
      · refine el_lcI (te := tVar 11) (t := ttSame K) (vs := [11]) (fun p : Nat => decide (colZ ws (p : Int) = colZ ws (i : Int))) (fun p => .int (p : Int)) (ei_rng1c (j := (ws.length : Int)) (n := ws.length) (by omega) (Evl.ea_cons (Evl.ev_var (i := 1) rfl) Evl.ea_nil) (by omega) (by omega)) (aims_fn (j := 11)) (fun _ => rfl) (by omega) (fun p G eG hp => ?_) (fun p G eG hp _ => ?_)
        · have ep : (0 : Int) + (p : Int) = (p : Int) := Int.zero_add _
          refine Evl.et_is (Evl.et_test (Evl.ev_op (Evl.ev_op (Evl.ev_var rfl) (Evl.ev_is (Evl.ev_var rfl) (by rw [ep])) (colAt (by omega) (by omega) (e2.trans eG))) (Evl.ev_op (Evl.ev_var rfl) (Evl.ev_var rfl) (colAt (by omega) (by omega) (e2.trans eG))) (Evl.rv_eq rfl))) (decide_eq_decide.mpr ⟨fun z => V.int.inj z, fun z => by rw [z]⟩)
        · exact Evl.ev_is (Evl.ev_var rfl) (by rw [Int.zero_add])
      · rintro L j xo σ' H3 hxo ⟨y3, y4, y5, y6, y7, y8, y9, y10, rfl, e3, hL, nsj⟩
        obtain ⟨o, ho, hoc, rfl⟩ : ∃ o : Nat, o < ws.length ∧ colZ ws (o : Int) = colZ ws (i : Int) ∧ xo = .int (o : Int) := by
          unfold Evl.given at hxo
          rw [List.getElem?_map] at hxo
          cases hq : ((List.range ws.length).filter fun p : Nat => decide (colZ ws (p : Int) = colZ ws (i : Int)))[j]? with
          | none => rw [hq] at hxo; cases hxo
          | some p =>
            rw [hq] at hxo
            cases hxo
            have := List.mem_filter.mp (List.mem_of_getElem? hq)
            exact ⟨p, List.mem_range.mp this.1, of_decide_eq_true this.2, rfl⟩
        dsimp only [List.set_cons_zero, List.set_cons_succ]
        refine par_go (cons_any (lst_go (cons_any (tup_go (goA (vs := tv ((i : Int), (o : Int), decide ((i : Int) ≠ (o : Int)))) (Evl.ea_cons (Evl.ev_var rfl) (Evl.ea_cons (Evl.ev_var rfl) (Evl.ea_cons (Evl.ev_is (Evl.ev_op (Evl.ev_var rfl) (Evl.ev_var rfl) (Evl.rv_ne rfl)) ?_) Evl.ea_nil))) fun H4 e4 => ⟨by show 3 ≤ sizeLine; decide, fun S hS4 => ⟨by show 1 ≤ sizeLine; decide, fun R hR => ⟨_, _, rfl, ?_⟩⟩⟩)))))
        · refine congrArg V.bl ?_
          by_cases z : (i : Int) = (o : Int)
          · rw [z, decide_eq_true rfl, decide_eq_false (fun h => h rfl)]
            rfl
          · rw [decide_eq_true z, decide_eq_false (fun h => z (V.int.inj h))]
            rfl
        have e5 := (e4.trans (Evl.Ex.new (o := .tup (tv ((i : Int), (o : Int), decide ((i : Int) ≠ (o : Int))))) hS4)).trans (Evl.Ex.new (o := .lst [.ref S]) hR)
        have RS : S ≠ R := fun z => by rw [← z, upd_same] at hR; cases hR
        have h5S : upd (upd H4 S (.tup (tv ((i : Int), (o : Int), decide ((i : Int) ≠ (o : Int)))))) R (.lst [.ref S]) S = some (.tup (tv ((i : Int), (o : Int), decide ((i : Int) ≠ (o : Int))))) := by rw [upd_ne RS, upd_same]
        have h5R : upd (upd H4 S (.tup (tv ((i : Int), (o : Int), decide ((i : Int) ≠ (o : Int)))))) R (.lst [.ref S]) R = some (.lst [.ref S]) := upd_same
        have h3R : H3 R = none := Evl.fresh_back (e4.trans (Evl.Ex.new hS4)) hR
        refine asg_go ?_
        generalize upd (upd H4 S (.tup (tv ((i : Int), (o : Int), decide ((i : Int) ≠ (o : Int)))))) R (.lst [.ref S]) = H5 at e5 h5S h5R
        intro Kn hKn
        have h3K : H3 Kn = none := Evl.fresh_back e5 hKn
        have e6 : Evl.Ex H5 (upd H5 Kn (DN P w Kn [])) := Evl.Ex.new hKn
        refine go (Evl.ev_op (Evl.ev_var rfl) Evl.ev_c (Evl.rv_ixL (v := .ref S) (Evl.sq_of (e6 _ _ h5R)) rfl)) fun H6 e7 => ⟨S, tv ((i : Int), (o : Int), decide ((i : Int) ≠ (o : Int))), rfl, rfl, e7 _ _ upd_same, tv_ok _, e7 _ _ (e6 _ _ h5S), ?_⟩
        have KR : R ≠ Kn := ne_of_none h5R hKn
        have KS : S ≠ Kn := ne_of_none h5S hKn
        have row0 : RowAt P w (upd H6 Kn (DN P w Kn [(tv ((i : Int), (o : Int), decide ((i : Int) ≠ (o : Int))), S)])) R Kn [S] [((i : Int), (o : Int), decide ((i : Int) ≠ (o : Int)))] := by
          refine ⟨?_, upd_same, rfl, fun j a t a1 a2 => ?_⟩
          · rw [upd_ne KR]
            exact e7 _ _ (e6 _ _ h5R)
          · cases j with
            | zero =>
              cases a1
              cases a2
              rw [upd_ne KS]
              exact e7 _ _ (e6 _ _ h5S)
            | succ j => cases a1
        have e8 : Evl.Ex H3 (upd H6 Kn (DN P w Kn [(tv ((i : Int), (o : Int), decide ((i : Int) ≠ (o : Int))), S)])) := ((e5.trans e6).trans e7).mut h3K
        refine (show tWhile _ _ _ _ (upd H6 Kn (DN P w Kn [(tv ((i : Int), (o : Int), decide ((i : Int) ≠ (o : Int))), S)])) from ?_)
        generalize upd H6 Kn (DN P w Kn [(tv ((i : Int), (o : Int), decide ((i : Int) ≠ (o : Int))), S)]) = H7 at row0 e8 ⊢
        clear e7 e6 h5S h5R KR KS RS e5 hKn hR hS4 e4
        dsimp only [gName, List.set_cons_zero, List.set_cons_succ]
        refine Evl.s_while (fun m σ' H' => ∃ (k : Nat) (ts : List Tr) (as : List Addr) (y7 y8 y9 y10 : Option V), σ' = [some (.ref a), some (.int (ws.length : Int)), some (.int (i : Int)), some (.int (o : Int)), some (.ref R), some (.int (k : Int)), some (.ref Kn), y7, y8, y9, y10, none] ∧
          RowAt P w H' R Kn as ts ∧ Wk (colZ ws) (ws.length : Nat) i o k ts ∧ m + k = ws.length * (ws.length * 2) + 1 ∧ Evl.Ex H3 H') (ws.length * (ws.length * 2) + 1) ⟨0, _, _, _, _, _, _, rfl, row0, Wk.start (by omega) (by omega) (by omega) (by omega), rfl, e8⟩ ?_
        clear row0 e8
        rintro m σ' H8 ⟨k, ts, as, y7', y8', y9', y10', rfl, hrow, hW, hm, e8⟩
        have hfew := hW.few
        refine ⟨decide ((k : Int) < (ts.length : Int)), Evl.et_test (Evl.ev_op (Evl.ev_var rfl) (Evl.ev_is (Evl.ev_len (Evl.ev_var rfl) (Evl.sq_of hrow.row)) (by rw [List.length_map, hrow.len])) Evl.rv_I0), fun hb H9 e9 => ?_, fun hb H9 e9 => ?_⟩
        · have hk : k < ts.length := by
            have := of_decide_eq_true hb
            omega
          obtain ⟨t, ht⟩ : ∃ t, ts[k]? = some t := ⟨_, List.getElem?_eq_getElem hk⟩
          obtain ⟨s', hs'⟩ : ∃ s', as[k]? = some s' := ⟨_, List.getElem?_eq_getElem (by rw [hrow.len]; exact hk)⟩
          have hg := hW.good t (List.mem_of_getElem? ht)
          have hrow9 := hrow.ex e9
          refine ⟨fun σ2 H2 => ∃ m', m' < m ∧ ∃ (k : Nat) (ts : List Tr) (as : List Addr) (y7 y8 y9 y10 : Option V), σ2 = [some (.ref a), some (.int (ws.length : Int)), some (.int (i : Int)), some (.int (o : Int)), some (.ref R), some (.int (k : Int)), some (.ref Kn), y7, y8, y9, y10, none] ∧
            RowAt P w H2 R Kn as ts ∧ Wk (colZ ws) (ws.length : Nat) i o k ts ∧ m' + k = ws.length * (ws.length * 2) + 1 ∧ Evl.Ex H3 H2, fun _ _ h => h, ?_⟩
          refine Evl.q_asg (v := .ref s') (Evl.ev_op (Evl.ev_var rfl) (Evl.ev_var rfl) (Evl.rv_ixL (Evl.sq_of hrow9.row) (atI_nat (by rw [List.getElem?_map, hs'] <;> rfl)))) fun H10 e10 => ?_
          refine Evl.q_asg (v := .int ((k + 1 : Nat) : Int)) (Evl.ev_is (Evl.ev_op (Evl.ev_var rfl) Evl.ev_c Evl.rv_I0) (congrArg V.int (by omega))) fun H11 e11 => ?_
          have hrow11 := (hrow9.ex e10).ex e11
          have ht11 := hrow11.each k s' t hs' ht
          have e311 := ((e8.trans e9).trans e10).trans e11
          have at0 : ∀ {G : Hp}, Evl.Ex H11 G → Evl.RV (rIxT K) (.ref s') (.int 0) G (.int t.1) := fun e => Evl.rv_ixT (Evl.st_of (e _ _ ht11)) rfl
          have at1 : ∀ {G : Hp}, Evl.Ex H11 G → Evl.RV (rIxT K) (.ref s') (.int 1) G (.int t.2.1) := fun e => Evl.rv_ixT (Evl.st_of (e _ _ ht11)) rfl
          have at2 : ∀ {G : Hp}, Evl.Ex H11 G → Evl.RV (rIxT K) (.ref s') (.int 2) G (.bl t.2.2) := fun e => Evl.rv_ixT (Evl.st_of (e _ _ ht11)) rfl
          dsimp only [List.set_cons_zero, List.set_cons_succ]
          refine Evl.q_when (b := t.2.2 && decide ((if t.1 - (o : Int) < 0 then -(t.1 - (o : Int)) else t.1 - (o : Int)) < 2)) (Evl.et_and (Evl.et_B (Evl.ev_op (Evl.ev_var rfl) Evl.ev_c (at2 (Evl.Ex.refl _)))) fun _ => Evl.et_test (Evl.ev_op (ev_abs (Evl.ev_op (Evl.ev_op (Evl.ev_var rfl) Evl.ev_c (at0 (Evl.Ex.refl _))) (Evl.ev_var rfl) Evl.rv_I0)) Evl.ev_c Evl.rv_I0)) (fun hb2 H12 e12 => ?_) (fun hb2 H12 e12 => ?_)
          · obtain ⟨b1, b2⟩ := Bool.and_eq_true_iff.mp hb2
            have b3 := of_decide_eq_true b2
            refine Evl.s_ret Evl.ev_c fun H13 e13 => (q H13 (((e3.trans e311).trans e12).trans e13)).1 ⟨i, o, hi2, ho, hoc.symm, t.1, t.2.1, by rw [← b1]; exact hg.1, ?_, ?_⟩
            · split at b3 <;> omega
            · split at b3 <;> omega
          have hv : ¬ Viol (o : Int) t := fun ⟨v1, v2, v3⟩ => by
            rw [v1, Bool.true_and] at hb2
            have := of_decide_eq_false hb2
            split at this <;> omega
          clear hb2
          have hrow12 := hrow11.ex e12
          refine Evl.s_forR2 (lo := if t.1 - 1 > 0 then t.1 - 1 else 0) (n := if t.1 + 2 < (ws.length : Int) then t.1 + 2 else (ws.length : Int)) (Evl.ea_cons (ev_max2 Evl.ev_c (Evl.ev_op (Evl.ev_op (Evl.ev_var rfl) Evl.ev_c (at0 e12)) Evl.ev_c Evl.rv_I0)) (Evl.ea_cons (ev_min2 (Evl.ev_var rfl) (Evl.ev_op (Evl.ev_op (Evl.ev_var rfl) Evl.ev_c (at0 e12)) Evl.ev_c Evl.rv_I0)) Evl.ea_nil)) ?_
            (fun f σ' H' => ∃ (ts : List Tr) (as : List Addr) (y8 y9 y10 : Option V), σ' = [some (.ref a), some (.int (ws.length : Int)), some (.int (i : Int)), some (.int (o : Int)), some (.ref R), some (.int ((k + 1 : Nat) : Int)), some (.ref Kn), some (.ref s'), y8, y9, y10, none] ∧
              RowAt P w H' R Kn as ts ∧ Wk (colZ ws) (ws.length : Nat) i o k ts ∧ ts[k]? = some t ∧ as[k]? = some s' ∧ Evl.Ex H3 H' ∧ ∀ u, Nx (colZ ws) ws.length t u → u.1 < (if t.1 - 1 > 0 then t.1 - 1 else 0) + (f : Int) → u ∈ ts) ?_ ?_ ?_
          · have := hg.2
            split <;> split <;> omega
          · intro H13 e13
            refine ⟨ts, as, _, _, _, rfl, hrow12.ex e13, hW, ht, hs', (e311.trans e12).trans e13, fun u hu hl => ?_⟩
            obtain ⟨u1, u2, _, _, u5, _⟩ := hu
            exfalso
            split at hl <;> omega
          · rintro f σ' H13 hf ⟨ts1, as1, y8, y9, y10, rfl, r1, w1, t1, s1, x1, c1⟩
            have ht13 := r1.each k s' t s1 t1
            have at1' : ∀ {G : Hp}, Evl.Ex H13 G → Evl.RV (rIxT K) (.ref s') (.int 1) G (.int t.2.1) := fun e => Evl.rv_ixT (Evl.st_of (e _ _ ht13)) rfl
            dsimp only [List.set_cons_zero, List.set_cons_succ]
            generalize hF : (if t.1 - 1 > 0 then t.1 - 1 else 0) + (f : Int) = F1 at hf c1 ⊢
            have F0 : 0 ≤ F1 := by split at hF <;> omega
            have F2 : F1 < ws.length := by split at hf <;> omega
            have F3 : -1 ≤ F1 - t.1 := by have := hg.2; split at hF <;> omega
            have F4 : F1 - t.1 ≤ 1 := by split at hf <;> omega
            refine Evl.s_forR2 (lo := if t.2.1 - 1 > 0 then t.2.1 - 1 else 0) (n := if t.2.1 + 2 < (ws.length : Int) then t.2.1 + 2 else (ws.length : Int)) (Evl.ea_cons (ev_max2 Evl.ev_c (Evl.ev_op (Evl.ev_op (Evl.ev_var rfl) Evl.ev_c (at1' (Evl.Ex.refl _))) Evl.ev_c Evl.rv_I0)) (Evl.ea_cons (ev_min2 (Evl.ev_var rfl) (Evl.ev_op (Evl.ev_op (Evl.ev_var rfl) Evl.ev_c (at1' (Evl.Ex.refl _))) Evl.ev_c Evl.rv_I0)) Evl.ea_nil)) ?_
              (fun g σ' H' => ∃ (ts : List Tr) (as : List Addr) (y9 y10 : Option V), σ' = [some (.ref a), some (.int (ws.length : Int)), some (.int (i : Int)), some (.int (o : Int)), some (.ref R), some (.int ((k + 1 : Nat) : Int)), some (.ref Kn), some (.ref s'), some (.int F1), y9, y10, none] ∧
                RowAt P w H' R Kn as ts ∧ Wk (colZ ws) (ws.length : Nat) i o k ts ∧ ts[k]? = some t ∧ as[k]? = some s' ∧ Evl.Ex H3 H' ∧ ∀ u, Nx (colZ ws) ws.length t u → (u.1 < F1 ∨ (u.1 = F1 ∧ u.2.1 < (if t.2.1 - 1 > 0 then t.2.1 - 1 else 0) + (g : Int))) → u ∈ ts) ?_ ?_ ?_
            · have := hg.2
              split <;> split <;> omega
            · intro H14 e14
              refine ⟨ts1, as1, _, _, rfl, r1.ex e14, w1, t1, s1, x1.trans e14, fun u hu hl => ?_⟩
              rcases hl with hl | ⟨_, hl⟩
              · exact c1 u hu hl
              · obtain ⟨_, _, u3, u4, _, _, u7, _⟩ := hu
                exfalso
                split at hl <;> omega
            · rintro g σ' H14 hg2 ⟨ts2, as2, y9, y10, rfl, r2, w2, t2, s2, x2, c2⟩
              have ht14 := r2.each k s' t s2 t2
              dsimp only [List.set_cons_zero, List.set_cons_succ]
              generalize hG : (if t.2.1 - 1 > 0 then t.2.1 - 1 else 0) + (g : Int) = G1 at hg2 c2 ⊢
              have G0 : 0 ≤ G1 := by split at hG <;> omega
              have G2 : G1 < ws.length := by split at hg2 <;> omega
              have G3 : -1 ≤ G1 - t.2.1 := by have := hg.2; split at hG <;> omega
              have G4 : G1 - t.2.1 ≤ 1 := by split at hg2 <;> omega
              have hNx : Nx (colZ ws) ws.length t (F1, G1, (t.2.2 || decide (F1 ≠ G1))) ↔ colZ ws F1 = colZ ws G1 := ⟨fun h => h.2.2.2.2.2.2.2.2.1, fun h => ⟨F3, F4, G3, G4, F0, F2, G0, G2, h, rfl⟩⟩
              have hnext : ∀ {ts' : List Tr}, (∀ v ∈ ts2, v ∈ ts') → (colZ ws F1 = colZ ws G1 → (F1, G1, (t.2.2 || decide (F1 ≠ G1))) ∈ ts') → ∀ u, Nx (colZ ws) ws.length t u → (u.1 < F1 ∨ (u.1 = F1 ∧ u.2.1 < G1 + 1)) → u ∈ ts' := fun {ts'} hsub hin u hu hl => by
                by_cases z : u.1 = F1 ∧ u.2.1 = G1
                · have eu : u = (F1, G1, (t.2.2 || decide (F1 ≠ G1))) := by
                    obtain ⟨_, _, _, _, _, _, _, _, _, u0⟩ := id hu
                    obtain ⟨z1, z2⟩ := z
                    obtain ⟨x, y, fl⟩ := u
                    cases z1
                    cases z2
                    exact congrArg (fun b => ((x, y, b) : Tr)) u0
                  rw [eu]
                  rw [eu] at hu
                  exact hin (hNx.mp hu)
                · refine hsub u (c2 u hu ?_)
                  rcases hl with hl | ⟨h1, h2⟩
                  · exact .inl hl
                  · refine .inr ⟨h1, ?_⟩
                    have : u.2.1 ≠ G1 := fun h => z ⟨h1, h⟩
                    omega
              have hG' : (if t.2.1 - 1 > 0 then t.2.1 - 1 else 0) + ((g + 1 : Nat) : Int) = G1 + 1 := by omega
              rw [hG']
              refine asg_go (tup_go (goA (vs := tv (F1, G1, (t.2.2 || decide (F1 ≠ G1)))) (Evl.ea_cons (Evl.ev_var rfl) (Evl.ea_cons (Evl.ev_var rfl) (Evl.ea_cons (Evl.ev_is (Evl.ev_orV (Evl.ev_op (Evl.ev_var rfl) Evl.ev_c (Evl.rv_ixT (v := .bl t.2.2) (Evl.st_of ht14) rfl)) fun _ => Evl.ev_op (Evl.ev_var rfl) (Evl.ev_var rfl) (Evl.rv_ne rfl)) ?_) Evl.ea_nil))) fun H15 e15 => ⟨by show 3 ≤ sizeLine; decide, fun S2 hS2 => ?_⟩))
              · refine congrArg V.bl (congrArg (t.2.2 || ·) ?_)
                by_cases z : F1 = G1
                · rw [z, decide_eq_true rfl, decide_eq_false (fun h => h rfl)]
                  rfl
                · rw [decide_eq_true z, decide_eq_false (fun h => z (V.int.inj h))]
                  rfl
              have e16 := e15.trans (Evl.Ex.new (o := .tup (tv (F1, G1, (t.2.2 || decide (F1 ≠ G1))))) hS2)
              have h16 : upd H15 S2 (.tup (tv (F1, G1, (t.2.2 || decide (F1 ≠ G1))))) S2 = some (.tup (tv (F1, G1, (t.2.2 || decide (F1 ≠ G1))))) := upd_same
              generalize upd H15 S2 (.tup (tv (F1, G1, (t.2.2 || decide (F1 ≠ G1))))) = H16 at e16 h16 ⊢
              have r16 := r2.ex e16
              have x16 := x2.trans e16
              have e016 := e3.trans x16
              dsimp only [List.set_cons_zero, List.set_cons_succ]
              refine Evl.s_when (b := decide (V.int (colZ ws F1) = V.int (colZ ws G1)) && !decide ((F1, G1, (t.2.2 || decide (F1 ≠ G1))) ∈ ts2)) (Evl.et_and (Evl.et_test (Evl.ev_op (Evl.ev_op (Evl.ev_var rfl) (Evl.ev_var rfl) (colAt F0 F2 e016)) (Evl.ev_op (Evl.ev_var rfl) (Evl.ev_var rfl) (colAt G0 G2 e016)) (Evl.rv_eq rfl))) fun _ => Evl.et_B fun H17 e17 Q' q' =>
                ⟨.ref S2, rfl, .ref Kn, rfl, Kn, S2, _, _, rfl, rfl, (r16.ex e17).kn, (r16.ex e17).keys, tv_ok _, e17 _ _ h16, by rw [ents_has r2.len]; exact q' H17 (Evl.Ex.refl _)⟩) (fun hb3 H17 e17 => ?_) (fun hb3 H17 e17 => ?_)
              · obtain ⟨b1, b2⟩ := Bool.and_eq_true_iff.mp hb3
                have b3 : (F1, G1, (t.2.2 || decide (F1 ≠ G1))) ∉ ts2 := fun z => by rw [decide_eq_true z] at b2; cases b2
                have hc1 := V.int.inj (of_decide_eq_true b1)
                have r17 := r16.ex e17
                have hlen2 : ts2.length ≤ 3200 := Nat.le_trans w2.few (Nat.le_trans (Nat.mul_le_mul hl (Nat.mul_le_mul_right 2 hl)) (by decide))
                refine ⟨.ref Kn, rfl, .ref S2, rfl, Kn, S2, _, _, rfl, rfl, rfl, r17.kn, r17.keys, tv_ok _, e17 _ _ h16, by rw [ents_has r2.len]; exact decide_eq_false b3, by unfold ents; rw [List.length_map, List.length_zip, r2.len]; omega, ?_⟩
                refine Evl.s_app (xs := as2.map V.ref) ?_ (Evl.ev_var rfl) (Evl.ev_var rfl) (by rw [List.length_map, r2.len]; omega) fun H18 e18 => ?_
                · rw [upd_ne (fun z => by have := r17.row; rw [z, r17.kn] at this; cases this)]
                  exact r17.row
                · refine ⟨ts2 ++ [(F1, G1, (t.2.2 || decide (F1 ≠ G1)))], as2 ++ [S2], _, _, rfl, r17.push (e17 _ _ h16) e18, w2.push (List.mem_of_getElem? t2) (hNx.mpr hc1) b3, ?_, ?_, (((x16.trans e17).mut h3K).trans e18).mut h3R, hnext (fun v hv => List.mem_append_left _ hv) fun _ => List.mem_append_right _ List.mem_cons_self⟩
                  · rw [List.getElem?_append_left (List.getElem?_eq_some_iff.mp t2).1]
                    exact t2
                  · rw [List.getElem?_append_left (List.getElem?_eq_some_iff.mp s2).1]
                    exact s2
              · refine ⟨ts2, as2, _, _, rfl, r16.ex e17, w2, t2, s2, x16.trans e17, hnext (fun v hv => hv) fun hc1 => ?_⟩
                rw [hc1, decide_eq_true rfl, Bool.true_and] at hb3
                cases hd : decide ((F1, G1, (t.2.2 || decide (F1 ≠ G1))) ∈ ts2) with
                | true => exact of_decide_eq_true hd
                | false => rw [hd] at hb3; cases hb3
            · rintro σ' H14 ⟨ts2, as2, y9, y10, rfl, r2, w2, t2, s2, x2, c2⟩
              refine ⟨ts2, as2, _, _, _, rfl, r2, w2, t2, s2, x2, fun u hu hl => c2 u hu ?_⟩
              obtain ⟨_, _, u3, u4, _, _, u7, u8, _⟩ := hu
              by_cases z : u.1 < F1
              · exact .inl z
              · refine .inr ⟨by omega, ?_⟩
                split <;> split <;> omega
          · rintro σ' H13 ⟨ts1, as1, y8, y9, y10, rfl, r1, w1, t1, s1, x1, c1⟩
            refine ⟨m - 1, by omega, k + 1, ts1, as1, _, _, _, _, rfl, r1, w1.next t1 hv fun u hu => c1 u hu ?_, by omega, x1⟩
            obtain ⟨u1, u2, _, _, u5, u6, _⟩ := hu
            split <;> split <;> omega
        · have hk : k = ts.length := by
            have := of_decide_eq_false hb
            have := hW.le
            omega
          refine ⟨_, _, _, _, _, _, _, _, rfl, e3.trans (e8.trans e9), e9 _ _ (e8 _ _ hL), fun j' hj' p hp => ?_⟩
          by_cases z : j' < j
          · exact nsj j' z p hp
          · obtain rfl : j' = j := by omega
            rw [hxo] at hp
            have := V.int.inj (Option.some.inj hp)
            obtain rfl : o = p := by omega
            rintro ⟨x, y, r, d1, d2⟩
            rw [hk] at hW
            exact (hW.all r).2 ⟨rfl, d1, d2⟩
      · rintro L σ' H3 ⟨y3, y4, y5, y6, y7, y8, y9, y10, rfl, e3, hL, nsj⟩
        refine ⟨_, _, _, _, _, _, _, _, _, rfl, e3, fun o ho p hp hc => ?_⟩
        by_cases z : o < i
        · exact ns o z p hp hc
        · obtain rfl : o = i := by omega
          obtain ⟨j', hj'⟩ := List.mem_iff_getElem?.mp (List.mem_map.mpr ⟨p, List.mem_filter.mpr ⟨List.mem_range.mpr hp, decide_eq_true hc.symm⟩, rfl⟩ : V.int (p : Int) ∈ Evl.given ws.length (fun p : Nat => decide (colZ ws (p : Int) = colZ ws (o : Int))) fun p => .int (p : Int))
          exact nsj j' (List.getElem?_eq_some_iff.mp hj').1 p hj'
    · rintro σ' H2 ⟨y2, y3, y4, y5, y6, y7, y8, y9, y10, rfl, e2, ns⟩
      refine Evl.s_ret Evl.ev_c fun H3 e3 => (q H3 (e2.trans e3)).2 fun ⟨o, p, ho, hp, hc, hs⟩ => ns o (by omega) p hp hc hs
end
end P51
end S_Tq
section S_Od
namespace P51
open PySem PySem.Spec PyProof.Rows L2 Tl Hk EnL Go W50 W51
abbrev nBe : List Str := ["cord", "colours", "told", "many", "walk", "at", "found", "turn", "each"]
theorem scBent : FnScope nBe ["cord", "colours", "told"] (defScope sBent) := ⟨rfl, rfl, rfl, by decide +kernel, rfl, by decide +kernel, by decide +kernel⟩
abbrev teP4 : TE := tCall spScoop [] E0 (tCons (tVar 0) (tCons (tVar 3) tNil))
abbrev teMk (CY : Addr) (K : PySem.W.Frag) : TE := tMake CY (spStrayI K 1 CY) [] E0 (tCons (tVar 8) tNil)
def BentD (d : PyData) : Prop := (∃ ds, d = .tuple ds ∧ ds.length ≤ 2000 ∧ ∀ e ∈ ds, flatD e = true ∧ e.canLay0 = true) ∨ flatD d = true
/-- what the line's judge told -/
def Told (K : PySem.W.Frag) (CY CK : Addr) (H : Hp) (ws : List Int) (y : V) : Prop := (∃ x wk, y = .ref x ∧ StrayW ws (some wk) ∧ wk.length ≤ 800 ∧ StrayAt K CY H x (.tuple (wk.map PyData.int))) ∨ (W52.Calm ws ∧ ∃ c, y = .ref c ∧ CalmIns CK H c)
theorem Told.ex {K : PySem.W.Frag} {CY CK : Addr} {H H' : Hp} {ws : List Int} {y : V} (h : Told K CY CK H ws y) (e : Evl.Ex H H') : Told K CY CK H' ws y := h.elim (fun ⟨x, wk, h1, h2, h3, h4⟩ => .inl ⟨x, wk, h1, h2, h3, h4.ex e⟩) fun ⟨C, c, h1, dx, fs, h2, h3⟩ => .inr ⟨C, c, h1, dx, fs, e _ _ h2, h3⟩
/-- what a Stray is made of here -/
def BentV (K : PySem.W.Frag) (H : Hp) (u : V) : Prop := ∃ d, Dp K H u d ∧ Fixable 1 d ∧ BentD (fixD d)
theorem BentV.ex {K : PySem.W.Frag} {H H' : Hp} {u : V} (h : BentV K H u) (e : Evl.Ex H H') : BentV K H' u := h.imp fun d ⟨a, b⟩ => ⟨dp_ex e a, b⟩
theorem bent_list {K : PySem.W.Frag} {H : Hp} {p : Addr} {xs : List V} {ds : List PyData} (h : H p = some (.lst xs)) (hD : DpAll K H xs ds) (hl : ds.length ≤ 2000) (hf : ∀ e ∈ ds, flatD e = true ∧ e.canLay0 = true) : BentV K H (.ref p) := by
  refine ⟨.list ds, .lst (Evl.sq_of h) hD, .inr ⟨ds, .inl rfl, by omega, fun e he => (hf e he).1⟩, .inl ⟨ds, ?_, hl, hf⟩⟩
  rw [fixD, fixDs_map]
  congr 1
  refine (List.map_congr_left fun e he => fix_flat (hf e he).1).trans (List.map_id _)
theorem bent_ints {K : PySem.W.Frag} {H : Hp} {p : Addr} {ys : List Int} (h : H p = some (.lst (ys.map V.int))) (hl : ys.length ≤ 2000) : BentV K H (.ref p) :=
  bent_list h (dpa_ints ys) (by rw [List.length_map]; exact hl) fun e he => by
    obtain ⟨z, _, rfl⟩ := List.mem_map.mp he
    exact ⟨rfl, rfl⟩
theorem bent_flat {K : PySem.W.Frag} {H : Hp} {v : V} {d : PyData} (h : Dp K H v d) (f : flatD d = true) : BentV K H v := ⟨d, h, .inl f, .inr (by rw [fix_flat f]; exact f)⟩
theorem cut_ints (zs : List Int) (lo hi : Option Int) : ∃ ys : List Int, cutV (zs.map V.int) lo hi = ys.map V.int ∧ ys.length ≤ zs.length := by
  unfold cutV
  rw [List.length_map, ← List.map_drop, ← List.map_take]
  exact ⟨_, rfl, by rw [List.length_take, List.length_drop]; omega⟩
def RB (K : PySem.W.Frag) (pW : Addr) : V → Hp → Prop := fun v H => v = .ref pW ∨ BentV K H v
theorem rb_mono {K : PySem.W.Frag} {pW : Addr} : Mono (RB K pW) := fun v H H' e h => h.imp id fun h => h.ex e
section
open Evl
variable {K : PySem.W.Frag} {σ : L2.St} {G : Hp} {te ta tb : TE} {pW : Addr}
theorem rb_ints {ys : List Int} (h : EvL te σ G (ys.map V.int)) (hl : ys.length ≤ 2000) : EvF te σ G (RB K pW) := ef_l h fun p H hp => .inr (bent_ints hp hl)
theorem rb_cutF {tl th : TO} {zs : List Int} {lo hi : Option Int} (h : Ev te σ G (.ref pW)) (hp : G pW = some (.lst (zs.map V.int))) (h1 : EvO tl σ G lo) (h2 : EvO th σ G hi) (hl : zs.length ≤ 800) : EvF (tSl (rSlL K) te tl th) σ G (RB K pW) := by
  obtain ⟨ys, e, hy⟩ := cut_ints zs lo hi
  exact rb_ints (e ▸ el_sl h h1 h2 (sq_of hp)) (by omega)
theorem rb_cut2 {tl th tl' th' : TO} {zs : List Int} {lo hi lo' hi' : Option Int} (h : Ev te σ G (.ref pW)) (hp : G pW = some (.lst (zs.map V.int))) (h1 : EvO tl σ G lo) (h2 : EvO th σ G hi) (h3 : EvO tl' σ G lo') (h4 : EvO th' σ G hi') (hl : zs.length ≤ 800) : EvF (tOp rCat (tSl (rSlL K) te tl th) (tSl (rSlL K) te tl' th')) σ G (RB K pW) := by
  obtain ⟨ys, e, hy⟩ := cut_ints zs lo hi
  obtain ⟨ys', e', hy'⟩ := cut_ints zs lo' hi'
  refine rb_ints (ys := ys ++ ys') ?_ (by rw [List.length_append]; omega)
  rw [List.map_append]
  exact el_catN (e ▸ el_sl h h1 h2 (sq_of hp)) (e' ▸ el_sl h h3 h4 (sq_of hp)) (by rw [List.length_map, List.length_map]; omega)
theorem rb_cut3 {tl th tl' th' : TO} {zs : List Int} {lo hi lo' hi' : Option Int} {i : Int} (h : Ev te σ G (.ref pW)) (hp : G pW = some (.lst (zs.map V.int))) (h1 : EvO tl σ G lo) (h2 : EvO th σ G hi) (hi1 : Ev ta σ G (.int i)) (h3 : EvO tl' σ G lo') (h4 : EvO th' σ G hi') (hl : zs.length ≤ 800) : EvF (tOp rCat (tOp rCat (tSl (rSlL K) te tl th) (tLst (tCons ta tNil))) (tSl (rSlL K) te tl' th')) σ G (RB K pW) := by
  obtain ⟨ys, e, hy⟩ := cut_ints zs lo hi
  obtain ⟨ys', e', hy'⟩ := cut_ints zs lo' hi'
  refine rb_ints (ys := ys ++ [i] ++ ys') ?_ (by rw [List.length_append, List.length_append, List.length_singleton]; omega)
  rw [List.map_append, List.map_append]
  exact el_catN (el_catN (e ▸ el_sl h h1 h2 (sq_of hp)) (el_lst (ea_cons hi1 ea_nil) (by show 1 ≤ 100000; decide)) (by rw [List.length_map]; show ys.length + 1 ≤ 100000; omega)) (e' ▸ el_sl h h3 h4 (sq_of hp)) (by rw [List.length_append, List.length_map, List.length_map, List.length_map, List.length_singleton]; omega)
theorem rb_cut {tl th : TO} {zs : List Int} {lo hi : Option Int} (h : Ev te σ G (.ref pW)) (hp : G pW = some (.lst (zs.map V.int))) (h1 : EvO tl σ G lo) (h2 : EvO th σ G hi) (hl : zs.length ≤ 800) : ∃ ys : List Int, ys.length ≤ zs.length ∧ EvL (tSl (rSlL K) te tl th) σ G (ys.map V.int) := by
  obtain ⟨ys, e, hy⟩ := cut_ints zs lo hi
  exact ⟨ys, hy, e ▸ el_sl h h1 h2 (sq_of hp)⟩
theorem el_catVV {l m : Addr} {xs ys : List V} (ha : Ev ta σ G (.ref l)) (h : G l = some (.lst xs)) (hb : Ev tb σ G (.ref m)) (h' : G m = some (.lst ys)) (hz : xs.length + ys.length ≤ 100000) : EvL (tOp rCat ta tb) σ G (xs ++ ys) := fun H1 e Q q =>
  ha H1 e _ fun H2 e2 => hb H2 (e.trans e2) _ fun H3 e3 => ⟨l, m, xs, ys, rfl, rfl, e3 _ _ (e2 _ _ (e _ _ h)), e3 _ _ (e2 _ _ (e _ _ h')), sz_of hz, fun r hr => q r _ (fresh_back (e2.trans e3) hr) ((e2.trans e3).trans (Ex.new hr)) upd_same⟩
theorem el_revL {a : Addr} {xs : List V} (ha : Ev te σ G (.ref a)) (h : G a = some (.lst xs)) : EvL (tRevL K te) σ G xs.reverse := fun H1 e Q q =>
  ha H1 e _ fun H2 e2 => ⟨a, xs, rfl, sq_of (e2 _ _ (e _ _ h)), fun p hp => q p _ (fresh_back e2 hp) (e2.trans (Ex.new hp)) upd_same⟩
end
def spBent (K : PySem.W.Frag) (CY CK : Addr) : Sp := fun vs H Q _ => ∃ (t c : Addr) (n : Nat) (a : Addr) (y : V) (ws : List Int), vs = [.ref t, .ref a, y] ∧ Tub H t c n ∧ n ≤ 10000 ∧ H a = some (.lst (ws.map V.int)) ∧ ws.length ≤ 400 ∧ Told K CY CK H ws y ∧
  ∀ p xs H', H p = none → H' p = some (.lst xs) → xs.length = 16 → (∀ v ∈ xs, ∃ x d, v = .ref x ∧ StrayAt K CY H' x d ∧ BentD d) → Kept t H H' → Tub H' t c (n + 5) → Q (.ref p) H'
section
variable {P : Program} {w : World} {K : PySem.W.Frag} {mg : Str → Option Value} {base : Heap}
set_option maxHeartbeats 1000000 in
theorem ok_bent {f fS fY CY CK CP CD : Addr} {fd fdS fdY : FuncData} {k : Nat} (F : Fun K "_law_bent" "_law_bent" sBent f fd)
    (FS : Fun K "_law_ply" "_law_ply" sScoop fS fdS) (GS : FnOk P w K mg base CX0 (k + 1) fS fdS ["cord", "many"] spScoop) (bS : Binds K fdS ["cord", "many"] []) (gS : mg "_law_ply" = some (.ref fS))
    (M2 : Mk K CY fY) (GY : FnOk P w K mg base CX0 k fY fdY ["self", "walk"] (spStrayI K 1 CY)) (bY : Binds K fdY ["self", "walk"] []) (gCY : mg "Stray" = some (.ref CY)) (T : Kits K CY CK CP CD) (nWk : NoAttr K CY "walk")
    (mi : mg "isinstance" = none) (mlen : mg "len" = none) (mmax : mg "max" = none) (mlist : mg "list" = none) (mrange : mg "range" = none) : FnOk P w K mg base CX0 (k + 2) f fd ["cord", "colours", "told"] (spBent K CY CK) := by
  refine F.ok scBent (fun vs H Q E h => ?_) (fun cdv A outer s H vs Q E hr h => ?_)
  · obtain ⟨t, c, n, a, y, ws, rfl, _⟩ := h
    rfl
  · obtain ⟨t, c, n, a, y, ws, rfl, hT, hn, hA, hl, hy, q⟩ := h
    have nd := scBent.nd
    refine ⟨_, pss_cons (ps_set (i := 3) nd rfl (.inr rfl) (pe_callB (call_max2 rfl) (by rfl) mmax (by decide +kernel) (pa_cons (pe_int) (pa_cons (pe_callB call_len_seq (by rfl) mlen PySem.boot_len (pa_cons (pv 1) (pa_nil))) (pa_nil))))) (Evl.pss_cut (ps_set (i := 4) nd rfl (.inl rfl) (pe_ifExp (pt_val (pe_callB call_isi (by rfl) mi (by decide +kernel) (pa_cons (pv 2) (pa_cons (pe_glob (v := .ref CY) (by rfl) gCY rfl) (pa_nil))))) (pe_callTy call_list_of (by rfl) mlist (by decide +kernel) (pa_cons (pe_fld (pv 2) (by rfl)) (pa_nil))) (pe_lc (own := [("turn", 7)]) (g := gName 7) (tt := tYes) (te := teP4) rfl nd (pi_range1 (by rfl) mrange (pa_cons (pe_int) (pa_nil))) (blkOk_by (N := nBe) (sc := defScope sBent) (by decide +kernel)) (fun _ _ _ _ _ => pg_name (i := 7) nd rfl (Or.inl rfl)) (fun _ _ _ _ _ => pts_nil) (fun _ _ _ _ _ => pe_call GS hr (by rfl) gS FS.kp bS .nil pass0 (pa_cons (pv 0) (pa_cons (pv 3) (pa_nil))))))) (pss_cons (ps_set (i := 5) nd rfl (.inl rfl) (pe_call GS hr (by rfl) gS FS.kp bS .nil pass0 (pa_cons (pv 0) (pa_cons (pe_callB call_len_seq (by rfl) mlen PySem.boot_len (pa_cons (pv 4) (pa_nil))) (pa_nil))))) (pss_cons (ps_set (i := 6) nd rfl (.inl rfl) (pe_lst (pa_cons (pv 4) (pa_cons (pe_revL (pv 4)) (pa_cons (pe_slice sl_list (pv 4) (po_none) (po_some (pe_un un_neg pe_int))) (pa_cons (pe_op op_cat (pv 4) (pv 4)) (pa_cons (pe_op op_cat (pe_slice sl_list (pv 4) (po_some (pe_int)) (po_none)) (pe_slice sl_list (pv 4) (po_none) (po_some (pe_int)))) (pa_cons (pe_op op_cat (pe_op op_cat (pe_slice sl_list (pv 4) (po_none) (po_some (pv 5))) (pe_lst (pa_cons (pe_op op_add (pe_ix ix_list (pv 4) (pv 5) (fun _ _ => rfl)) (pe_int)) (pa_nil)))) (pe_slice sl_list (pv 4) (po_some (pe_op op_add (pv 5) (pe_int))) (po_none))) (pa_cons (pe_lst pa_nil) (pa_cons (pe_non) (pa_nil))))))))))) (pss_cons (ps_set (i := 6) nd rfl (.inl rfl) (pe_op op_cat (pv 6) (pe_lst (pa_cons (pe_lst (pa_cons (pe_ix ix_list (pv 4) (pe_int) (fun _ _ => rfl)) (pa_cons (pe_ix ix_list (pv 4) (pe_int) (fun _ _ => rfl)) (pa_nil)))) (pa_cons (pe_lst (pa_cons (pe_int) (pa_cons (pe_int) (pa_cons (pe_int) (pa_cons (pe_int) (pa_nil)))))) (pa_cons (pe_lst (pa_cons (pe_int) (pa_cons (pe_int) (pa_cons (pe_int) (pa_cons (pe_int) (pa_nil)))))) (pa_cons (pe_lst (pa_cons (pe_bl) (pa_cons (pe_int) (pa_cons (pe_int) (pa_cons (pe_int) (pa_nil)))))) (pa_cons (pe_lst (pa_cons (pe_str) (pa_cons (pe_str) (pa_nil)))) (pa_cons (pe_lst (pa_cons (pe_int) (pa_cons (pe_int) (pa_cons (pe_int) (pa_cons (pe_int) (pa_nil)))))) (pa_cons (pe_lst (pa_cons (pv 3) (pa_cons (pv 3) (pa_nil)))) (pa_cons (pe_int) (pa_nil)))))))))))) (pss_one (ps_ret (pe_lc (own := [("each", 8)]) (g := gName 8) (tt := tYes) (te := teMk CY K) rfl nd (pi_list (pv 6)) (blkOk_by (N := nBe) (sc := defScope sBent) (by decide +kernel)) (fun _ _ _ _ _ => pg_name (i := 8) nd rfl (Or.inl rfl)) (fun _ _ _ _ _ => pts_nil) (fun _ _ _ _ _ => pe_make M2 GY hr (by rfl) gCY bY .nil pass0 (pa_cons (pv 8) (pa_nil)))))))))), ?_⟩
    have lw : (ws.map V.int).length = ws.length := List.length_map _
    obtain ⟨m, hm, m1, m4⟩ : ∃ m : Nat, (if (ws.length : Int) > 1 then (ws.length : Int) else 1) = (m : Int) ∧ 1 ≤ m ∧ m ≤ 400 := by
      by_cases z : (ws.length : Int) > 1
      · exact ⟨ws.length, by rw [if_pos z], by omega, hl⟩
      · exact ⟨1, by rw [if_neg z]; rfl, by omega, by omega⟩
    refine Evl.q_asg (v := .int (m : Int)) (Evl.ev_is (ev_max2 Evl.ev_c (Evl.ev_is (Evl.ev_len (Evl.ev_var rfl) (Evl.sq_of hA)) (by rw [lw]))) (congrArg V.int hm)) fun H1 e1 => ?_
    dsimp only [List.set_cons_zero, List.set_cons_succ]
    refine Evl.q_cut (M := fun σ' H' => ∃ (pW : Addr) (zs : List Int), σ' = [some (.ref t), some (.ref a), some y, some (.int (m : Int)), some (.ref pW), none, none, none, none] ∧ 1 ≤ zs.length ∧ zs.length ≤ 800 ∧ H' pW = some (.lst (zs.map V.int)) ∧ pW ≠ t ∧ Kept t H H' ∧ Tub H' t c (n + 4)) ?_ ?_
    · refine asg_last ?_
      have T1 := hT.ex e1
      rcases hy with ⟨x, wk, rfl, hs, hwl, hx⟩ | ⟨C, c0, rfl, hc⟩
      · have hx1 := hx.ex e1
        refine goT (b := true) (Evl.et_B (Evl.ev_cb (Evl.ea_cons (Evl.ev_var rfl) (Evl.ea_cons Evl.ev_c Evl.ea_nil)) (rc_isY (k := .stray (.tuple (wk.map PyData.int))) T (.stray hx1 (.inl ⟨_, rfl, by rw [List.length_map]; omega⟩))))) fun H2 e2 => if_go (fun _ => ?_) (fun z => nomatch z)
        obtain ⟨dx, fs, v, h1, h2, h3, h4⟩ := hx1.ex e2
        refine cb_go (cons_any ⟨.ref x, rfl, x, CY, dx, fs, v, rfl, h1, T.iY.cl, nWk, h3, ?_⟩)
        cases h4 with
        | @tup pv us _ hS hD =>
          obtain rfl := dpa_ints_inv hD
          refine ⟨pv, wk.map V.int, rfl, .inr hS, fun l hl => ⟨l, wk, rfl, ?_, hwl, upd_same, ((T1.ex e2).ne hl).1, ((Kept.of e1).trans (Kept.of e2)).trans (Kept.of (Evl.Ex.new hl)), ((T1.ex e2).ex (Evl.Ex.new hl)).mono (by omega)⟩⟩
          have := stray_of hs
          unfold strayB walkB at this
          exact of_decide_eq_true (Bool.and_eq_true_iff.mp (Bool.and_eq_true_iff.mp this).1).1
      · have hc1 : CalmIns CK H1 c0 := by
          obtain ⟨dx, fs, h1, h2⟩ := hc
          exact ⟨dx, fs, e1 _ _ h1, h2⟩
        refine goT (b := false) (Evl.et_B (Evl.ev_cb (Evl.ea_cons (Evl.ev_var rfl) (Evl.ea_cons Evl.ev_c Evl.ea_nil)) (rc_isY (k := .calm) T (.calm hc1)))) fun H2 e2 => if_go (fun z => nomatch z) (fun _ => ?_)
        have T2 := T1.ex e2
        have k2 : Kept t H H2 := (Kept.of e1).trans (Kept.of e2)
        refine ⟨4, rfl, by omega, by omega, fun W hW => ?_⟩
        have W0 : H W = none := kept_fresh k2 hT T2 hW
        have Wt := (T2.ne hW).1
        have Wc := (T2.ne hW).2
        refine lc_range (lo := 0) (n := (4 : Int).toNat) (fun i H' => ∃ ms : List Int, ms.length = i ∧ H' W = some (.lst (ms.map V.int)) ∧ Tub H' t c (n + i) ∧ Kept t H H')
          ⟨[], rfl, upd_same, (T2.same (same_new hW)).mono (by omega), kept_mut k2 W0⟩ ?_ ?_
        · rintro i' H' hi ⟨ms, l1, l3, T', k'⟩
          have hi : i' < 4 := hi
          refine ⟨rfl, yes_at ?_⟩
          refine ⟨.ref t, rfl, .int (m : Int), rfl, t, c, (m : Int), n + i', rfl, T', by omega, by omega, by omega, fun z H4 z0 z1 k4 T4 => ⟨ms.map V.int, k4 _ _ Wt l3, Evl.sz_lt (by rw [List.length_map]; omega), ms ++ [z], by rw [List.length_append, List.length_singleton, l1], ?_, T4.upd Wt Wc, kept_mut (k'.trans k4) W0⟩⟩
          rw [List.map_append]
          exact upd_same
        · rintro H' ⟨ms, l1, l3, T', k'⟩
          have l1 : ms.length = 4 := l1
          exact ⟨W, ms, rfl, by omega, by omega, l3, Wt, k', T'⟩
    · rintro σ' H2 ⟨pW, zs, rfl, z1, z8, hW, Wt, k2, T2⟩
      clear hy e1 hA hl lw hm
      have lz : (zs.map V.int).length = zs.length := List.length_map _
      refine asg_go (call_raw (cons_any ⟨.ref t, rfl, cons_any (go (v := .int (zs.length : Int)) (Evl.ev_is (Evl.ev_len (Evl.ev_var rfl) (Evl.sq_of hW)) (by rw [lz])) fun H3 e3 => ⟨t, c, (zs.length : Int), n + 4, rfl, T2.ex e3, by omega, by omega, by omega, fun j H4 j0 j1 k4 T4 => ?_⟩)⟩))
      obtain ⟨j, rfl⟩ : ∃ j' : Nat, j = (j' : Int) := ⟨j.toNat, by omega⟩
      have hW4 := k4 _ _ Wt (e3 _ _ hW)
      have k24 := (k2.trans (Kept.of e3)).trans k4
      clear k2 e3 k4 T2 hW
      dsimp only [List.set_cons_zero, List.set_cons_succ]
      refine asg_go (ef_lst (G := H4) (R := RB K pW) (R' := fun v H' => ∃ p xs, v = .ref p ∧ H' p = some (.lst xs) ∧ xs.length = 8 ∧ ∀ u ∈ xs, RB K pW u H') (n := 8) rb_mono (ef_cons rb_mono ?_ (ef_cons rb_mono ?_ (ef_cons rb_mono ?_ (ef_cons rb_mono ?_ (ef_cons rb_mono ?_ (ef_cons rb_mono ?_ (ef_cons rb_mono ?_ (ef_cons rb_mono ?_ ef_nil)))))))) (by decide) (fun p xs H h1 h2 h3 => ⟨p, xs, rfl, h1, h2, h3⟩) H4 (Evl.Ex.refl _) _ fun v H5 e5 hv => ?_)
      · exact ef_c (Evl.ev_var rfl) fun _ => .inl rfl
      · exact rb_ints (ys := zs.reverse) (by rw [List.map_reverse]; exact el_revL (Evl.ev_var rfl) hW4) (by rw [List.length_reverse]; omega)
      · exact rb_cutF (Evl.ev_var rfl) hW4 Evl.eo_none (Evl.eo_some (Evl.ev_un Evl.ev_c Evl.ru_neg)) z8
      · exact rb_ints (ys := zs ++ zs) (by rw [List.map_append]; exact el_catVV (Evl.ev_var rfl) hW4 (Evl.ev_var rfl) hW4 (by rw [lz]; omega)) (by rw [List.length_append]; omega)
      · exact rb_cut2 (Evl.ev_var rfl) hW4 (Evl.eo_some Evl.ev_c) Evl.eo_none Evl.eo_none (Evl.eo_some Evl.ev_c) z8
      · exact rb_cut3 (Evl.ev_var rfl) hW4 Evl.eo_none (Evl.eo_some (Evl.ev_var rfl)) (Evl.ev_op (Evl.ev_op (Evl.ev_var rfl) (Evl.ev_var rfl) (Evl.rv_ixL (Evl.sq_of hW4) (w_at (i := j) (by omega)))) Evl.ev_c Evl.rv_I0) (Evl.eo_some (Evl.ev_op (Evl.ev_var rfl) Evl.ev_c Evl.rv_I0)) Evl.eo_none z8
      · exact rb_ints (ys := []) (Evl.el_lst Evl.ea_nil (Nat.zero_le _)) (Nat.zero_le _)
      · exact ef_c Evl.ev_c fun _ => .inr (bent_flat .non rfl)
      obtain ⟨p1, xs1, rfl, h5, l5, r5⟩ := hv
      have h5' := nw_ex _ _ h5
      have r5' : ∀ u ∈ xs1, RB K pW u H5 := fun u hu => rb_mono _ _ _ nw_ex (r5 u hu)
      clear r5 h5
      have hW5 := e5 _ _ hW4
      have k25 := k24.trans (Kept.of e5)
      have T5 := T4.ex e5
      clear e5 hW4 k24 T4
      dsimp only [List.set_cons_zero, List.set_cons_succ]
      refine asg_go (op_go (go (Evl.ev_var rfl) fun H6 e6 => ?_))
      have hW6 := e6 _ _ hW5
      have sq6 := Evl.sq_of (K := K) hW6
      refine ef_lst (G := H6) (R := RB K pW) (R' := fun v H' => ∃ p xs, v = .ref p ∧ H' p = some (.lst xs) ∧ xs.length = 8 ∧ ∀ u ∈ xs, RB K pW u H') (n := 8) rb_mono (ef_cons rb_mono ?_ (ef_cons rb_mono ?_ (ef_cons rb_mono ?_ (ef_cons rb_mono ?_ (ef_cons rb_mono ?_ (ef_cons rb_mono ?_ (ef_cons rb_mono ?_ (ef_cons rb_mono ?_ ef_nil)))))))) (by decide) (fun p xs H h1 h2 h3 => ⟨p, xs, rfl, h1, h2, h3⟩) H6 (Evl.Ex.refl _) _ fun v H7 e7 hv => ?_
      · exact rb_ints (ys := [zs.getD 0 0, zs.getD 0 0]) (Evl.el_lst (Evl.ea_cons (Evl.ev_op (Evl.ev_var rfl) Evl.ev_c (Evl.rv_ixL sq6 (w_at (i := 0) z1))) (Evl.ea_cons (Evl.ev_op (Evl.ev_var rfl) Evl.ev_c (Evl.rv_ixL sq6 (w_at (i := 0) z1))) Evl.ea_nil)) (by show 2 ≤ 100000; decide)) (by show 2 ≤ 2000; decide)
      · exact rb_ints (ys := [0, 1, 0, 1]) (Evl.el_lst (Evl.ea_cons Evl.ev_c (Evl.ea_cons Evl.ev_c (Evl.ea_cons Evl.ev_c (Evl.ea_cons Evl.ev_c Evl.ea_nil)))) (by show 4 ≤ 100000; decide)) (by show 4 ≤ 2000; decide)
      · exact rb_ints (ys := [1, 0, 1, 2]) (Evl.el_lst (Evl.ea_cons Evl.ev_c (Evl.ea_cons Evl.ev_c (Evl.ea_cons Evl.ev_c (Evl.ea_cons Evl.ev_c Evl.ea_nil)))) (by show 4 ≤ 100000; decide)) (by show 4 ≤ 2000; decide)
      · exact ef_l (xs := [.bl true, .int 0, .int 1, .int 2]) (Evl.el_lst (Evl.ea_cons Evl.ev_c (Evl.ea_cons Evl.ev_c (Evl.ea_cons Evl.ev_c (Evl.ea_cons Evl.ev_c Evl.ea_nil)))) (by show 4 ≤ 100000; decide)) fun p H hp => .inr (bent_list hp (ds := [.bool true, .int 0, .int 1, .int 2]) (.cons (.bl true) (.cons (.int 0) (.cons (.int 1) (.cons (.int 2) .nil)))) (by show 4 ≤ 2000; decide) (fun e he => by
          simp only [List.mem_cons, List.not_mem_nil, or_false] at he
          rcases he with rfl | rfl | rfl | rfl <;> exact ⟨rfl, rfl⟩))
      · exact ef_l (xs := [.str "0", .str "1"]) (Evl.el_lst (Evl.ea_cons Evl.ev_c (Evl.ea_cons Evl.ev_c Evl.ea_nil)) (by show 2 ≤ 100000; decide)) fun p H hp => .inr (bent_list hp (ds := [.str "0", .str "1"]) (.cons (.str "0") (.cons (.str "1") .nil)) (by show 2 ≤ 2000; decide) (fun e he => by
          simp only [List.mem_cons, List.not_mem_nil, or_false] at he
          rcases he with rfl | rfl <;> exact ⟨rfl, by decide +kernel⟩))
      · exact rb_ints (ys := [0, 1, 2, 1]) (Evl.el_lst (Evl.ea_cons Evl.ev_c (Evl.ea_cons Evl.ev_c (Evl.ea_cons Evl.ev_c (Evl.ea_cons Evl.ev_c Evl.ea_nil)))) (by show 4 ≤ 100000; decide)) (by show 4 ≤ 2000; decide)
      · exact rb_ints (ys := [(m : Int), (m : Int)]) (Evl.el_lst (Evl.ea_cons (Evl.ev_var rfl) (Evl.ea_cons (Evl.ev_var rfl) Evl.ea_nil)) (by show 2 ≤ 100000; decide)) (by show 2 ≤ 2000; decide)
      · exact ef_c Evl.ev_c fun _ => .inr (bent_flat (.int 5) rfl)
      obtain ⟨p2, xs2, rfl, h7, l7, r7⟩ := hv
      have h7' := nw_ex _ _ h7
      have r7' : ∀ u ∈ xs2, RB K pW u H7 := fun u hu => rb_mono _ _ _ nw_ex (r7 u hu)
      clear r7 h7
      refine ⟨p1, p2, xs1, xs2, rfl, rfl, e7 _ _ (e6 _ _ h5'), h7', Evl.sz_of (by omega), fun r hr => ?_⟩
      dsimp only [List.set_cons_zero, List.set_cons_succ]
      have eR : Evl.Ex H7 (upd H7 r (.lst (xs1 ++ xs2))) := Evl.Ex.new hr
      have all : ∀ u ∈ xs1 ++ xs2, BentV K (upd H7 r (.lst (xs1 ++ xs2))) u := fun u hu => by
        have : RB K pW u (upd H7 r (.lst (xs1 ++ xs2))) := by
          rcases List.mem_append.mp hu with h | h
          · exact rb_mono _ _ _ ((e6.trans e7).trans eR) (r5' u h)
          · exact rb_mono _ _ _ eR (r7' u h)
        rcases this with rfl | h
        · exact bent_ints (eR _ _ (e7 _ _ hW6)) (by omega)
        · exact h
      have k8 := (k25.trans (Kept.of (e6.trans e7))).trans (Kept.of eR)
      have T8 := (T5.ex (e6.trans e7)).ex eR
      have l16 : (xs1 ++ xs2).length = 16 := by rw [List.length_append, l5, l7]
      generalize hG : upd H7 r (.lst (xs1 ++ xs2)) = G at *
      have hr8 : G r = some (.lst (xs1 ++ xs2)) := by rw [← hG]; exact upd_same
      clear hG eR r5' r7' h5' h7' hr e6 e7 hW6 hW5 sq6 k25 T5
      generalize xs1 ++ xs2 = F16 at *
      refine ret_go (ef_lc (G := G) (n := F16.length) (ei_list (Evl.ev_var rfl) (Evl.sq_of hr8)) (aims_at (j := 8)) (fun _ => rfl) (by omega) (fun _ v H' => ∃ x d, v = .ref x ∧ StrayAt K CY H' x d ∧ BentD d) (fun _ v A B e ⟨x, d, a1, a2, a3⟩ => ⟨x, d, a1, a2.ex e, a3⟩) (fun i hi => ?_) G (Evl.Ex.refl _) _ fun p xs H9 hp e9 h9 hx => ?_)
      · intro H1 e Q' q'
        obtain ⟨d, hd, hfx, hb⟩ := all (F16.getD i .non) (by
          rw [List.getD_eq_getElem?_getD, List.getElem?_eq_getElem hi]
          exact List.getElem_mem hi)
        refine ⟨F16.getD i .non, rfl, fun x dx hx hdx ne => ?_⟩
        have eM : Evl.Ex H1 (upd (upd H1 dx (.own x)) x (.ins CY dx [])) := fun b o h => by rw [upd_ne (ne_of_none h hx), upd_ne (ne_of_none h hdx)]; exact h
        refine ⟨x, dx, F16.getD i .non, d, rfl, upd_same, dp_ex (e.trans eM) hd, hfx, fun H' fs u hbu hx' hw1 hw2 hD => ⟨rfl, q' (.ref x) H' (fun b o h => hbu b o (ne_of_none h hx) (eM _ _ h)) ⟨x, fixD d, rfl, ⟨dx, fs, u, nw_of hx hx', hw1, hw2, dp_ex (nw_back eM) hD⟩, hb⟩⟩⟩
      · obtain ⟨hx1, hx2⟩ := hx
        refine q p xs H9 (kept_fresh k8 hT T8 hp) h9 (by omega) (fun v hv => ?_) (k8.trans (Kept.of e9)) ((T8.ex e9).mono (by omega))
        obtain ⟨i, hi⟩ := List.mem_iff_getElem?.mp hv
        obtain ⟨x, d, a1, a2, a3⟩ := hx2 i v hi
        exact ⟨x, d, a1, a2.ex nw_ex, a3⟩
end
end P51
end S_Od
section S_Oe
namespace P51
open PySem PySem.Spec PyProof.Rows L2 Tl Hk EnL Go W50 W51
abbrev nLo : List Str := ["cord", "begin", "near", "colours", "calm", "told", "half", "walk", "due", "place"]
theorem scLong : FnScope nLo ["cord"] (defScope sLong) := ⟨rfl, rfl, rfl, by decide +kernel, rfl, by decide +kernel, by decide +kernel⟩
abbrev teAfter (K : PySem.W.Frag) : TE := tOp (rI0 fun i j => V.int (i + j)) (tVar 9) (tCB (Evl.rLenS K) (tCons (tVar 2) tNil))
def spLongR : Sp := fun vs H Q _ => ∃ (t c : Addr) (n : Nat), vs = [.ref t] ∧ Tub H t c n ∧ n ≤ 10000 ∧ ∀ H', Q (.bl true) H'
theorem sl_go {r : V → Option Int → Option Int → Hp → VK → Prop} {te : TE} {tl th : TO} {σ : L2.St} {H : Hp} {Q : VK} (h : te σ H fun x H1 => tl σ H1 fun lo H2 => th σ H2 fun hi H3 => r x lo hi H3 Q) : tSl r te tl th σ H Q := h
theorem slA_any {K : PySem.W.Frag} {p : Addr} {xs : List V} {lo hi : Option Int} {H : Hp} {F : VK} (hp : H p = some (.tup xs)) (q : ∀ r H1, Evl.Ex H H1 → H1 r = some (.tup (cutV xs lo hi)) → F (.ref r) H1) : rSlA K (.ref p) lo hi H F := by
  have hh := Evl.st_of (K := K) hp
  refine ⟨p, xs, rfl, hh, fun hw => q p H (Evl.Ex.refl _) ?_, fun _ r hr => q r _ (Evl.Ex.new hr) upd_same⟩
  have e0 : cutV xs lo hi = xs := by
    unfold cutV
    rw [hw.1, hw.2, List.drop_zero, Nat.sub_zero, List.take_length]
  rw [e0]
  exact hp
theorem cut_pos (zs : List Int) (h : ∀ z ∈ zs, 0 ≤ z) (lo hi : Option Int) : ∃ ys : List Int, cutV (zs.map V.int) lo hi = ys.map V.int ∧ ys.length ≤ zs.length ∧ ∀ y ∈ ys, 0 ≤ y := by
  unfold cutV
  rw [List.length_map, ← List.map_drop, ← List.map_take]
  exact ⟨_, rfl, by rw [List.length_take, List.length_drop]; omega, fun y hy => h y (List.mem_of_mem_drop (List.mem_of_mem_take hy))⟩
theorem Told.pv {K : PySem.W.Frag} {CY CK CP CD : Addr} {H : Hp} {ws : List Int} {y : V} (h : Told K CY CK H ws y) : ∃ kk, PV K CY CK CP CD H y kk ∧ kk.isK = calmB ws ∧ kk.isY = (!calmB ws) ∧ showsD ws kk = true := by
  rcases h with ⟨x, wk, rfl, hs, hl, hx⟩ | ⟨C, c, rfl, hc⟩
  · refine ⟨.stray (.tuple (wk.map PyData.int)), .stray hx (.inl ⟨_, rfl, by rw [List.length_map]; omega⟩), ?_, ?_, ?_⟩
    · rw [calmB_no (not_calm hs)]; rfl
    · rw [calmB_no (not_calm hs)]; rfl
    · show strayD ws (.tuple (wk.map PyData.int)) = true
      unfold strayD
      rw [show intsD (.tuple (wk.map PyData.int)) = some wk from intsL_of wk]
      exact stray_of hs
  · exact ⟨.calm, .calm hc, by rw [calmB_yes C]; rfl, by rw [calmB_yes C]; rfl, calmB_yes C⟩
theorem fixable_walk {zs : List Int} (h : zs.length ≤ 4000) : Fixable 1 (.list (zs.map PyData.int)) := fixable_ints h
section
open Evl
variable {K : PySem.W.Frag} {σ : L2.St} {H : Hp} {ta tb te : TE} {CY CK CP CD pc : Addr} {ws : List Int} {E : XK}
/-- shows_line(colours, Calm()) -/
theorem ev_showsCalm (ha : Ev ta σ H (.ref pc)) (hL : LineAt K H pc ws) : Ev (tCall (spShows K CY CK CP CD) [] E (tCons ta (tCons (tMake CK (spCalmI CK) [] E0 tNil) tNil))) σ H (.bl (calmB ws)) := fun H1 e Q q =>
  call_raw (cons_any (ha H1 e _ fun H2 e2 => cons_any fun x dx hx hd ne => ⟨x, dx, rfl, upd_same, fun H' fs hb hx' hw => ⟨rfl, by
    have eM : Ex H2 (upd (upd H2 dx (.own x)) x (.ins CK dx [])) := fun b o h => by rw [upd_ne (ne_of_none h hx), upd_ne (ne_of_none h hd)]; exact h
    have e3 : Ex H2 H' := fun b o h => hb b o (ne_of_none h hx) (eM _ _ h)
    exact ⟨pc, .ref x, ws, .calm, rfl, hL.ex ((e.trans e2).trans e3), .calm ⟨dx, fs, hx', hw⟩, fun H3 e4 => q H3 ((e2.trans e3).trans e4)⟩⟩⟩))
/-- shows_line(colours, Stray(walk)) -/
theorem ev_showsStray {pw : Addr} {zs : List Int} (ha : Ev ta σ H (.ref pc)) (hL : LineAt K H pc ws) (hw : Ev tb σ H (.ref pw)) (hz : H pw = some (.lst (zs.map V.int))) (hl : zs.length ≤ 2000) : Ev (tCall (spShows K CY CK CP CD) [] E (tCons ta (tCons (tMake CY (spStrayI K 1 CY) [] E0 (tCons tb tNil)) tNil))) σ H (.bl (strayB ws zs)) := fun H1 e Q q =>
  call_raw (cons_any (ha H1 e _ fun H2 e2 => cons_any (hw H2 (e.trans e2) _ fun H3 e3 x dx hx hd ne => by
    have eM : Ex H3 (upd (upd H3 dx (.own x)) x (.ins CY dx [])) := fun b o h => by rw [upd_ne (ne_of_none h hx), upd_ne (ne_of_none h hd)]; exact h
    have hz3 := ((e.trans e2).trans e3) _ _ hz
    refine ⟨x, dx, .ref pw, .list (zs.map PyData.int), rfl, upd_same, .lst (sq_of (eM _ _ hz3)) (dpa_ints zs), fixable_ints (by omega), fun H' fs u hb hx' hw1 hw2 hD => ⟨rfl, ?_⟩⟩
    have e4 : Ex H3 H' := fun b o h => hb b o (ne_of_none h hx) (eM _ _ h)
    rw [fix_ints] at hD
    refine ⟨pc, .ref x, ws, .stray (.tuple (zs.map PyData.int)), rfl, hL.ex (((e.trans e2).trans e3).trans e4), .stray ⟨dx, fs, u, hx', hw1, hw2, dp_ex nw_ex hD⟩ (.inl ⟨_, rfl, by rw [List.length_map]; omega⟩), fun H5 e5 => ?_⟩
    have : showsD ws (.stray (.tuple (zs.map PyData.int))) = strayB ws zs := by
      show strayD ws (.tuple (zs.map PyData.int)) = strayB ws zs
      unfold strayD
      rw [show intsD (.tuple (zs.map PyData.int)) = some zs from intsL_of zs]
    rw [this]
    exact q H5 (((e2.trans e3).trans e4).trans e5))))
theorem ev_lis {v : V} {o : Option (List PyData)} (ha : Ev ta σ H (.ref pc)) (hc : H pc = some (.lst (ws.map V.int))) (hb : Ev tb σ H v) (hv : WV K H v o) : Ev (tCall (spLIS K) [] E (tCons ta (tCons tb tNil))) σ H (.bl (lawB ws o)) := fun H1 e Q q =>
  call_raw (cons_any (ha H1 e _ fun H2 e2 => cons_any (hb H2 (e.trans e2) _ fun H3 e3 => ⟨pc, v, ws, o, rfl, ((e.trans e2).trans e3) _ _ hc, hv.ex ((e.trans e2).trans e3), fun H4 e4 => q H4 ((e2.trans e3).trans e4)⟩)))
theorem ev_shows {y : V} {kk : PK} (ha : Ev ta σ H (.ref pc)) (hL : LineAt K H pc ws) (hb : Ev tb σ H y) (hp : PV K CY CK CP CD H y kk) : Ev (tCall (spShows K CY CK CP CD) [] E (tCons ta (tCons tb tNil))) σ H (.bl (showsD ws kk)) := fun H1 e Q q =>
  call_raw (cons_any (ha H1 e _ fun H2 e2 => cons_any (hb H2 (e.trans e2) _ fun H3 e3 => ⟨pc, y, ws, kk, rfl, hL.ex ((e.trans e2).trans e3), hp.ex ((e.trans e2).trans e3), fun H4 e4 => q H4 ((e2.trans e3).trans e4)⟩)))
theorem wv_ints {p : Addr} {zs : List Int} (h : H p = some (.lst (zs.map V.int))) (hl : zs.length ≤ 2000) : WV K H (.ref p) (some (zs.map PyData.int)) :=
  .seq (.inl (sq_of h)) (dpa_ints zs) (by rw [List.length_map]; exact hl) fun d hd => by
    obtain ⟨z, _, rfl⟩ := List.mem_map.mp hd
    exact ⟨rfl, rfl⟩
theorem lawB_ints {zs : List Int} : lawB ws (some (zs.map PyData.int)) = strayB ws zs := by
  show lawL ws (zs.map PyData.int) = strayB ws zs
  unfold lawL
  rw [intsL_of]
/-- a paper's walk, as the law is handed it -/
theorem wv_bent {v : V} {d : PyData} (h : Dp K H v d) (hb : BentD d) : ∃ o, WV K H v o ∧ lawB ws o = strayD ws d := by
  rcases hb with ⟨ds, rfl, hl, hf⟩ | hf
  · cases h with
    | @tup p xs _ hS hD => exact ⟨some ds, .seq (.inr hS) hD hl hf, rfl⟩
  · refine ⟨none, .flat h hf, ?_⟩
    cases d <;> first | rfl | (cases hf; done)
theorem bent_ws (zs : List Int) (h : zs.length ≤ 2000) : BentD (.tuple (zs.map PyData.int)) := .inl ⟨_, rfl, by rw [List.length_map]; exact h, fun e he => by
  obtain ⟨z, _, rfl⟩ := List.mem_map.mp he
  exact ⟨rfl, rfl⟩⟩
end
/-- the papers' making and asking, as the law has them at hand -/
structure Ask (P : Program) (w : World) (K : PySem.W.Frag) (mg : Str → Option Value) (base : Heap) (k : Nat) (CY CK CP CD fS fP fLC fPC fJ fSh fLI fK fY CB : Addr) (fdS fdP fdLC fdPC fdJ fdSh fdLI fdK fdY : FuncData) : Prop where
  FS : Fun K "_law_ply" "_law_ply" sScoop fS fdS
  GS : FnOk P w K mg base CX0 (k + 1) fS fdS ["cord", "many"] spScoop
  bS : Binds K fdS ["cord", "many"] []
  gS : mg "_law_ply" = some (.ref fS)
  FP : Fun K "_law_pick" "_law_pick" sPick fP fdP
  GP : FnOk P w K mg base CX0 (k + 1) fP fdP ["cord", "some"] (spPick K)
  bP : Binds K fdP ["cord", "some"] []
  gP : mg "_law_pick" = some (.ref fP)
  FLC : Fun K "line_colours" "line_colours" sLineCol fLC fdLC
  GLC : FnOk P w K mg base (L2.CX P w) (k + 1) fLC fdLC ["many"] (spLineCol K CB)
  bLC : Binds K fdLC ["many"] []
  gLC : mg "line_colours" = some (.ref fLC)
  FPC : Fun K "_law_plain_calm" "_law_plain_calm" sPCalm fPC fdPC
  GPC : FnOk P w K mg base CX0 (k + 1) fPC fdPC ["colours"] (spPCalm K)
  bPC : Binds K fdPC ["colours"] []
  gPC : mg "_law_plain_calm" = some (.ref fPC)
  FJ : Fun K "judged_line" "judged_line" sJudged fJ fdJ
  GJ : FnOk P w K mg base (L2.CX P w) (k + 1) fJ fdJ ["colours"] (spJudged K CK CY)
  bJ : Binds K fdJ ["colours"] []
  gJ : mg "judged_line" = some (.ref fJ)
  FSh : Fun K "shows_line" "shows_line" sShows fSh fdSh
  GSh : FnOk P w K mg base (L2.CX P w) (k + 1) fSh fdSh ["colours", "value"] (spShows K CY CK CP CD)
  bSh : Binds K fdSh ["colours", "value"] []
  gSh : mg "shows_line" = some (.ref fSh)
  FLI : Fun K "_law_is_stray" "_law_is_stray" sLIsStray fLI fdLI
  GLI : FnOk P w K mg base CX0 (k + 1) fLI fdLI ["colours", "walk"] (spLIS K)
  bLI : Binds K fdLI ["colours", "walk"] []
  gLI : mg "_law_is_stray" = some (.ref fLI)
  MK : Mk K CK fK
  GK : FnOk P w K mg base CX0 k fK fdK ["self"] (spCalmI CK)
  bK : Binds K fdK ["self"] []
  gCK : mg "Calm" = some (.ref CK)
  MY : Mk K CY fY
  GY : FnOk P w K mg base CX0 k fY fdY ["self", "walk"] (spStrayI K 1 CY)
  bY : Binds K fdY ["self", "walk"] []
  gCY : mg "Stray" = some (.ref CY)
  T : Kits K CY CK CP CD
  nWk : NoAttr K CY "walk"
section
variable {P : Program} {w : World} {K : PySem.W.Frag} {mg : Str → Option Value} {base : Heap}
set_option maxHeartbeats 1000000 in
theorem ok_long {f CY CK CP CD fS fP fLC fPC fJ fSh fLI fK fY CB : Addr} {fd fdS fdP fdLC fdPC fdJ fdSh fdLI fdK fdY : FuncData} {k : Nat} (F : Fun K "_law_long_right" "_law_long_right" sLong f fd)
    (W : Ask P w K mg base k CY CK CP CD fS fP fLC fPC fJ fSh fLI fK fY CB fdS fdP fdLC fdPC fdJ fdSh fdLI fdK fdY)
    (mi : mg "isinstance" = none) (mlen : mg "len" = none) (mrepr : mg "repr" = none) (mlist : mg "list" = none) (mrange : mg "range" = none) : FnG P w K mg base (k + 2) f fd ["cord"] spLongR := by
  obtain ⟨FS, GS, bS, gS, FP, GP, bP, gP, FLC, GLC, bLC, gLC, FPC, GPC, bPC, gPC, FJ, GJ, bJ, gJ, FSh, GSh, bSh, gSh, FLI, GLI, bLI, gLI, MK, GK, bK, gCK, MY, GY, bY, gCY, T, nWk⟩ := W
  refine fn_g F scLong (fun {vs H Q E} h => ?_) (fun cdv A outer s H vs Q E hgd hr h => ?_)
  · obtain ⟨t, c, n, rfl, _⟩ := h
    rfl
  · obtain ⟨t, c, n, rfl, hT, hn, q⟩ := h
    have nd := scLong.nd
    refine ⟨_, pss_cons (ps_set (i := 1) nd rfl (.inl rfl) (pe_call GS hr (by rfl) gS FS.kp bS .nil pass0 (pa_cons (pv 0) (pa_cons (pe_int) (pa_nil))))) (Evl.pss_cut (ps_set (i := 2) nd rfl (.inr rfl) (pe_op op_cat (pe_callTy call_list_of (by rfl) mlist (by decide +kernel) (pa_cons (pe_slice sl_tupA (pe_call GLC hr (by rfl) gLC FLC.kp bLC .nil passF (pa_cons (pe_int) (pa_nil))) (po_some (pv 1)) (po_some (pe_op op_add (pe_op op_add (pv 1) (pe_int)) (pe_call GS hr (by rfl) gS FS.kp bS .nil pass0 (pa_cons (pv 0) (pa_cons (pe_int) (pa_nil))))))) (pa_nil))) (pe_lst (pa_cons (pe_int) (pa_cons (pe_int) (pa_nil)))))) (Evl.pss_cut (ps_set (i := 3) nd rfl (.inl rfl) (pe_op op_cat (pe_op op_cat (pv 2) (pe_slice sl_list (pv 2) (po_none) (po_some (pe_op op_sub (pe_callB call_len_seq (by rfl) mlen PySem.boot_len (pa_cons (pv 2) (pa_nil))) (pe_call GP hr (by rfl) gP FP.kp bP .nil pass0 (pa_cons (pv 0) (pa_cons (pe_lst (pa_cons (pe_int) (pa_cons (pe_int) (pa_cons (pe_int) (pa_cons (pe_int) (pa_nil)))))) (pa_nil)))))))) (pe_callTy call_list_of (by rfl) mlist (by decide +kernel) (pa_cons (pe_slice sl_tupA (pe_call GLC hr (by rfl) gLC FLC.kp bLC .nil passF (pa_cons (pe_int) (pa_nil))) (po_none) (po_some (pe_call GS hr (by rfl) gS FS.kp bS .nil pass0 (pa_cons (pv 0) (pa_cons (pe_int) (pa_nil)))))) (pa_nil))))) (Evl.pss_cut (ps_par (i := 4) (j := 5) (by rfl) nd rfl rfl (by decide) rfl rfl (pa_cons (pe_call GPC hr (by rfl) gPC FPC.kp bPC .nil pass0 (pa_cons (pv 3) (pa_nil))) (pa_cons (pe_call GJ hr (by rfl) gJ FJ.kp bJ .nil passF (pa_cons (pv 3) (pa_nil))) (pa_nil))) (by rfl)) (pss_cons (ps_if (PW.pt (pw_or (pt_cmpR op_ne (pe_callB call_isi (by rfl) mi (by decide +kernel) (pa_cons (pv 5) (pa_cons (pe_glob (v := .ref CK) (by rfl) gCK rfl) (pa_nil)))) (pv 4) (nomark _)) (pw_or (pt_cmpR op_ne (pe_callB (call_reprX hgd hr.units) (by rfl) mrepr (by decide +kernel) (pa_cons (pe_call GSh hr (by rfl) gSh FSh.kp bSh .nil passF (pa_cons (pv 3) (pa_cons (pe_make0 MK GK hr (by rfl) gCK bK .nil pass0) (pa_nil)))) (pa_nil))) (pe_callB (call_reprX hgd hr.units) (by rfl) mrepr (by decide +kernel) (pa_cons (pv 4) (pa_nil))) (nomark _)) (pw_or1 (pt_cmpR op_isnot_bl (pe_call GSh hr (by rfl) gSh FSh.kp bSh .nil passF (pa_cons (pv 3) (pa_cons (pv 5) (pa_nil)))) (pe_bl) (nomark _)))))) (pss_one (ps_ret (pe_bl))) (pss_nil)) (pss_cons (ps_set (i := 6) nd rfl (.inl rfl) (pe_listRg rfl (by rfl) mlist (prg_1 (by rfl) mrange (pe_callB call_len_seq (by rfl) mlen PySem.boot_len (pa_cons (pv 2) (pa_nil)))))) (pss_cons (ps_set (i := 7) nd rfl (.inl rfl) (pe_op op_cat (pv 6) (pe_lc (own := [("place", 9)]) (g := gName 9) (tt := tYes) (te := teAfter K) rfl nd (pi_list (pv 6)) (blkOk_by (N := nLo) (sc := defScope sLong) (by decide +kernel)) (fun _ _ _ _ _ => pg_name (i := 9) nd rfl (Or.inl rfl)) (fun _ _ _ _ _ => pts_nil) (fun _ _ _ _ _ => pe_op op_add (pv 9) (pe_callB call_len_seq (by rfl) mlen PySem.boot_len (pa_cons (pv 2) (pa_nil))))))) (pss_cons (ps_set (i := 8) nd rfl (.inl rfl) (pe_call GLI hr (by rfl) gLI FLI.kp bLI .nil pass0 (pa_cons (pv 3) (pa_cons (pv 7) (pa_nil))))) (pss_one (ps_ret (pe_and (pe_cmpR op_eq (pe_callB (call_reprX hgd hr.units) (by rfl) mrepr (by decide +kernel) (pa_cons (pe_call GSh hr (by rfl) gSh FSh.kp bSh .nil passF (pa_cons (pv 3) (pa_cons (pe_make MY GY hr (by rfl) gCY bY .nil pass0 (pa_cons (pv 7) (pa_nil))) (pa_nil)))) (pa_nil))) (pe_callB (call_reprX hgd hr.units) (by rfl) mrepr (by decide +kernel) (pa_cons (pv 8) (pa_nil))) (nomark _)) (pe_one (pe_or (pv 4) (pe_one (pe_call GLI hr (by rfl) gLI FLI.kp bLI .nil pass0 (pa_cons (pv 3) (pa_cons (pe_fld (pv 5) (by rfl)) (pa_nil))))))))))))))))), ?_⟩
    refine asg_go ⟨.ref t, rfl, t, c, 30, n, rfl, hT, by omega, by omega, by omega, fun b H1 b0 b1 k1 T1 => ?_⟩
    dsimp only [List.set_cons_zero, List.set_cons_succ]
    have zl : ∀ m, (W52.zs (W52.LC m)).length = m := fun m => by unfold W52.zs; rw [List.length_map, W52.LC_len]
    refine Evl.q_cut (M := fun σ' H' => ∃ (pn : Addr) (N : List Int), σ' = [some (.ref t), some (.int b), some (.ref pn), none, none, none, none, none, none, none] ∧ H' pn = some (.lst (N.map V.int)) ∧ N.length ≤ 92 ∧ (∀ z ∈ N, 0 ≤ z) ∧ pn ≠ t ∧ Tub H' t c (n + 2)) ?_ ?_
    · refine asg_last (op_go (cb_go (cons_any (sl_go (eu_line (m := 90) (Evl.ea_cons Evl.ev_c Evl.ea_nil) (by omega) H1 (Evl.Ex.refl _) _ fun p1 H2 hp1 e2 h2 => ⟨.int b, rfl, b, rfl, ?_⟩)))))
      refine op_go (go (v := .int (b + 3)) (Evl.ev_op (Evl.ev_var rfl) Evl.ev_c Evl.rv_I0) fun H3 e3 => ⟨.ref t, rfl, t, c, 50, n + 1, rfl, (T1.ex e2).ex e3, by omega, by omega, by omega, fun r H4 r0 r1 k4 T4 => ⟨b + 3, r, rfl, rfl, b + 3 + r, rfl, ?_⟩⟩)
      refine slA_any (k4 _ _ ((T1.ne hp1).1) (e3 _ _ h2)) fun u H5 e5 h5 => ⟨u, _, rfl, .inr (Evl.st_of h5), fun l hl => ?_⟩
      obtain ⟨ys, hy, hyl, hyp⟩ := cut_pos (W52.zs (W52.LC 90)) (zs_pos _) (some b) (some (b + 3 + r))
      rw [iv_zs, hy]
      rw [zl] at hyl
      have h5 := upd_same (H := H5) (a := l) (o := .lst (ys.map V.int))
      have T5 := (T4.ex e5).ex (Evl.Ex.new (o := .lst (ys.map V.int)) hl)
      generalize upd H5 l (.lst (ys.map V.int)) = G5 at *
      refine Evl.el_lst (vs := [.int 4, .int 5]) (Evl.ea_cons Evl.ev_c (Evl.ea_cons Evl.ev_c Evl.ea_nil)) (by show 2 ≤ 100000; decide) G5 (Evl.Ex.refl _) _ fun l2 H6 hl2 e6 h6 => ?_
      refine ⟨l, l2, _, _, rfl, rfl, e6 _ _ h5, h6, Evl.sz_of (by rw [List.length_map]; show ys.length + 2 ≤ 100000; omega), fun pn hpn => ⟨pn, ys ++ [4, 5], rfl, ?_, ?_, fun z hz => ?_, ((T5.ex e6).ne hpn).1, (T5.ex e6).ex (Evl.Ex.new hpn)⟩⟩
      · rw [List.map_append]
        exact upd_same
      · rw [List.length_append]
        show ys.length + 2 ≤ 92
        omega
      · rcases List.mem_append.mp hz with hz | hz
        · exact hyp z hz
        · simp only [List.mem_cons, List.not_mem_nil, or_false] at hz
          rcases hz with rfl | rfl <;> decide
    rintro σ' H2 ⟨pn, N, rfl, hN, hNl, hNp, pt, T2⟩
    clear T1 k1 hT
    have lN : (N.map V.int).length = N.length := List.length_map _
    refine Evl.q_cut (M := fun σ' H' => ∃ (pc : Addr) (ws : List Int), σ' = [some (.ref t), some (.int b), some (.ref pn), some (.ref pc), none, none, none, none, none, none] ∧ H' pn = some (.lst (N.map V.int)) ∧ H' pc = some (.lst (ws.map V.int)) ∧ ws.length ≤ 400 ∧ (∀ z ∈ ws, 0 ≤ z)) ?_ ?_
    · refine asg_last (op_go (op_go ⟨.ref pn, rfl, sl_go ⟨.ref pn, rfl, ?_⟩⟩))
      refine op_go (go (v := .int (N.length : Int)) (Evl.ev_is (Evl.ev_len (Evl.ev_var rfl) (Evl.sq_of hN)) (by rw [lN])) fun H3 e3 => ⟨.ref t, rfl, ?_⟩)
      have T3 := T2.ex e3
      have hN3 := e3 _ _ hN
      refine ⟨by show 4 ≤ sizeLine; decide, fun l3 hl3 => ⟨t, c, l3, _, n + 2, rfl, T3.same (same_new hl3), by omega, (T3.ne hl3).1, .inl (.inl upd_same), by show 1 ≤ 4; omega, by show 4 ≤ 10000; omega, fun j v H4 hj k4 T4 => ?_⟩⟩
      have hN4 := k4 _ _ pt (Evl.Ex.new hl3 _ _ hN3)
      obtain ⟨d, rfl⟩ : ∃ d : Int, v = .int d := by
        have hm := List.mem_of_getElem? hj
        simp only [List.mem_cons, List.not_mem_nil, or_false] at hm
        rcases hm with e | e | e | e <;> exact ⟨_, e⟩
      clear hj k4 hl3
      refine ⟨(N.length : Int), d, rfl, rfl, (N.length : Int) - d, rfl, pn, N.map V.int, rfl, Evl.sq_of hN4, fun p5 hp5 => ?_⟩
      obtain ⟨ys, hy, hyl, hyp⟩ := cut_pos N hNp none (some ((N.length : Int) - d))
      rw [hy]
      have hN5 := Evl.Ex.new (o := .lst (ys.map V.int)) hp5 _ _ hN4
      have T5 := T4.ex (Evl.Ex.new (o := .lst (ys.map V.int)) hp5)
      refine ⟨pn, p5, N.map V.int, ys.map V.int, rfl, rfl, hN5, upd_same, Evl.sz_of (by rw [List.length_map, List.length_map]; omega), fun p6 hp6 => ?_⟩
      rw [← List.map_append]
      have hN6 := Evl.Ex.new (o := .lst ((N ++ ys).map V.int)) hp6 _ _ hN5
      have T6 := T5.ex (Evl.Ex.new (o := .lst ((N ++ ys).map V.int)) hp6)
      generalize hG : upd (upd H4 p5 (.lst (ys.map V.int))) p6 (.lst ((N ++ ys).map V.int)) = G at *
      have h6 : G p6 = some (.lst ((N ++ ys).map V.int)) := by rw [← hG]; exact upd_same
      have p6t : p6 ≠ t := (T5.ne hp6).1
      clear hG hN5 hN4 T5 T4 hp5 hp6 hN3 T3 e3
      refine cb_go (cons_any (sl_go (eu_line (m := 90) (Evl.ea_cons Evl.ev_c Evl.ea_nil) (by omega) G (Evl.Ex.refl _) _ fun p7 H7 hp7 e7 h7 => ?_)))
      refine ⟨.ref t, rfl, t, c, 3, n + 3, rfl, T6.ex e7, by omega, by omega, by omega, fun r H8 r0 r1 k8 T8 => ⟨r, rfl, ?_⟩⟩
      refine slA_any (k8 _ _ ((T6.ne hp7).1) h7) fun u H9 e9 h9 => ⟨u, _, rfl, .inr (Evl.st_of h9), fun l hl => ?_⟩
      obtain ⟨us, hu, hul, hup⟩ := cut_pos (W52.zs (W52.LC 90)) (zs_pos _) none (some r)
      rw [iv_zs, hu]
      rw [zl] at hul
      have eL := Evl.Ex.new (o := .lst (us.map V.int)) hl
      refine ⟨p6, l, (N ++ ys).map V.int, us.map V.int, rfl, rfl, eL _ _ (e9 _ _ (k8 _ _ p6t (e7 _ _ h6))), upd_same, Evl.sz_of (by rw [List.length_map, List.length_map, List.length_append]; omega), fun pc hpc => ⟨pc, N ++ ys ++ us, rfl, Evl.Ex.new hpc _ _ (eL _ _ (e9 _ _ (k8 _ _ pt (e7 _ _ hN6)))), ?_, ?_, fun z hz => ?_⟩⟩
      · rw [List.map_append (l₂ := us)]
        exact upd_same
      · rw [List.length_append, List.length_append]
        omega
      · rcases List.mem_append.mp hz with hz | hz
        · rcases List.mem_append.mp hz with hz | hz
          · exact hNp z hz
          · exact hyp z hz
        · exact hup z hz
    rintro σ' H3 ⟨pc, ws, rfl, hN3, hC, hl, hpos⟩
    clear T2 hN
    have line : ∀ {G : Hp}, Evl.Ex H3 G → LineAt K G pc ws := fun e => ⟨.inl (Evl.sq_of (e _ _ hC)), hl, hpos⟩
    refine Evl.q_cut (M := fun σ' H' => ∃ y : V, σ' = [some (.ref t), some (.int b), some (.ref pn), some (.ref pc), some (.bl (calmB ws)), some y, none, none, none, none] ∧ Evl.Ex H3 H' ∧ Told K CY CK H' ws y) ?_ ?_
    · refine ⟨.ref pc, rfl, pc, ws, rfl, hC, hl, fun H5 e5 => ⟨.ref pc, rfl, pc, ws, rfl, line e5, fun C c0 H6 e6 hc0 hcal => ⟨_, _, rfl, _, rfl, e5.trans e6, .inr ⟨C, c0, rfl, hcal⟩⟩, fun wk x H6 hs hwl hx e6 hst => ⟨_, _, rfl, _, rfl, e5.trans e6, .inl ⟨x, wk, rfl, hs, hwl, hst⟩⟩⟩⟩
    rintro σ' H4 ⟨y, rfl, e4, hy⟩
    obtain ⟨kk, hP, hk, hky, hsd⟩ := hy.pv (CP := CP) (CD := CD)
    have L4 := line e4
    refine Evl.q_when (b := false) (Evl.et_or (a := false) (Evl.et_is (Evl.et_test (Evl.ev_op (Evl.ev_cb (Evl.ea_cons (Evl.ev_var rfl) (Evl.ea_cons Evl.ev_c Evl.ea_nil)) (rc_isK T hP)) (Evl.ev_var rfl) (Evl.rv_ne rfl))) (by rw [hk, decide_eq_true rfl]; rfl)) fun _ =>
      Evl.et_or (a := false) (et_neStr (ev_reprT (ev_showsCalm (Evl.ev_var rfl) L4)) (ev_reprT (Evl.ev_var rfl))) fun _ =>
      Evl.et_is (Evl.et_test (Evl.ev_op (Evl.ev_is (ev_shows (Evl.ev_var rfl) L4 (Evl.ev_var rfl) hP) (congrArg V.bl hsd)) Evl.ev_c fun H6 _ Q' q' => ⟨true, true, rfl, rfl, q' H6 (Evl.Ex.refl _)⟩)) rfl) (fun z => nomatch z) fun _ H5 e5 => ?_
    have e35 := e4.trans e5
    have hN5 := e35 _ _ hN3
    -- half
    have hrg : rgV 0 (N.length : Int) = ((List.range N.length).map fun i : Nat => (i : Int)).map V.int := by
      unfold rgV
      rw [Int.sub_zero, Int.toNat_natCast, List.map_map]
      refine List.map_congr_left fun i _ => ?_
      show V.int (0 + (i : Int)) = V.int (i : Int)
      rw [Int.zero_add]
    obtain ⟨hs, hhs, hhl⟩ : ∃ hs : List Int, ((List.range N.length).map fun i : Nat => (i : Int)) = hs ∧ hs.length = N.length := ⟨_, rfl, by rw [List.length_map, List.length_range]⟩
    rw [hhs] at hrg
    refine Evl.q_asgL (xs := hs.map V.int) (hrg ▸ el_rg1 (Evl.ev_is (Evl.ev_len (Evl.ev_var rfl) (Evl.sq_of hN5)) (by rw [lN])) (.of_le (by omega) (by omega) (by omega) (by omega))) fun ph H6 hph e6 h6 => ?_
    dsimp only [List.set_cons_zero, List.set_cons_succ]
    have hN6 := e6 _ _ hN5
    have lh : (hs.map V.int).length = hs.length := List.length_map _
    have comp : Evl.EvL (tLc (iList K (tVar 6)) (gName 9) tYes (teAfter K) [9]) [some (.ref t), some (.int b), some (.ref pn), some (.ref pc), some (.bl (calmB ws)), some y, some (.ref ph), none, none, none] H6 ((hs.map fun z => z + (N.length : Int)).map V.int) := by
      have hsz : hs.map (fun z => V.int (z + (N.length : Int))) = (hs.map fun z => z + (N.length : Int)).map V.int := by rw [List.map_map]; rfl
      rw [← hsz, ← given_all hs 0 (fun z => V.int (z + (N.length : Int)))]
      have := el_lcI (te := teAfter K) (t := tYes) (σ := [some (.ref t), some (.int b), some (.ref pn), some (.ref pc), some (.bl (calmB ws)), some y, some (.ref ph), none, none, none]) (H := H6) (vs := [9]) (fun _ => true) (fun i => V.int (hs.getD i 0 + (N.length : Int))) (ei_list (K := K) (xs := hs.map V.int) (Evl.ev_var (i := 6) rfl) (Evl.sq_of h6)) (aims_at (j := 9)) (fun _ => rfl) (by rw [lh]; omega) (fun _ _ _ _ => et_yes) fun i G eG hi _ => by
        rw [lh] at hi
        refine Evl.ev_op (Evl.ev_is (Evl.ev_var rfl) (w := .int (hs.getD i 0)) ?_) (Evl.ev_is (Evl.ev_len (Evl.ev_var rfl) (Evl.sq_of (eG _ _ hN6))) (by rw [lN])) Evl.rv_I0
        rw [List.getD_eq_getElem?_getD, List.getElem?_map, List.getD_eq_getElem?_getD, List.getElem?_eq_getElem hi] <;> rfl
      rw [lh] at this
      exact this
    obtain ⟨zs, hzs, hzl⟩ : ∃ zs : List Int, hs ++ (hs.map fun z => z + (N.length : Int)) = zs ∧ zs.length ≤ 400 := ⟨_, rfl, by rw [List.length_append, List.length_map]; omega⟩
    refine Evl.q_asgL (xs := zs.map V.int) (by
      rw [← hzs, List.map_append]
      exact el_catVN (Evl.ev_var rfl) h6 comp (by rw [List.length_map, List.length_map, List.length_map]; omega)) fun pw H7 hpw e7 h7 => ?_
    dsimp only [List.set_cons_zero, List.set_cons_succ]
    have e37 := (e35.trans e6).trans e7
    refine Evl.q_asg (v := .bl (strayB ws zs)) (Evl.ev_is (ev_lis (Evl.ev_var rfl) (e37 _ _ hC) (Evl.ev_var rfl) (wv_ints h7 (by omega))) (congrArg V.bl lawB_ints)) fun H8 e8 => ?_
    dsimp only [List.set_cons_zero, List.set_cons_succ]
    have e38 := e37.trans e8
    have h8 := e8 _ _ h7
    refine Evl.s_ret (v := .bl true) (Evl.ev_is (Evl.ev_andV (a := true) (b := true) (Evl.ev_is (Evl.ev_op (ev_reprT (ev_showsStray (Evl.ev_var rfl) (line e38) (Evl.ev_var rfl) h8 (by omega))) (ev_reprT (Evl.ev_var rfl)) (Evl.rv_eq rfl)) (by rw [decide_eq_true rfl])) fun _ => Evl.ev_is (Evl.ev_orV (a := calmB ws) (b := !calmB ws) (Evl.ev_var rfl) fun hcb => ?_) (by cases calmB ws <;> rfl)) rfl) fun H9 e9 => q H9
    rcases hy with ⟨x, wk, rfl, hsw, hwl, hx⟩ | ⟨C, c0, rfl, hc⟩
    · obtain ⟨dx, fs, u, x1, x2, x3, x4⟩ := hx.ex (((e5.trans e6).trans e7).trans e8)
      obtain ⟨o, ho, ho2⟩ := wv_bent (ws := ws) x4 (bent_ws wk (by omega))
      refine Evl.ev_is (ev_lis (Evl.ev_var rfl) (e38 _ _ hC) (v := u) (fun H9 e9 Q' q' => ⟨.ref x, rfl, x, CY, dx, fs, u, rfl, e9 _ _ x1, T.iY.cl, nWk, x3, q' H9 (Evl.Ex.refl _)⟩) ho) (congrArg V.bl ?_)
      rw [hcb, ho2]
      unfold strayD
      rw [show intsD (.tuple (wk.map PyData.int)) = some wk from intsL_of wk]
      exact stray_of hsw
    · rw [calmB_yes C] at hcb
      cases hcb
end
end P51
end S_Oe
section S_Of
namespace P51
open PySem PySem.Spec PyProof.Rows L2 Tl Hk EnL Go W50 W51
abbrev nLaw : List Str := ["script", "cord", "turn", "colours", "stray", "told", "paper", "odd", "value"]
theorem scLaw : FnScope nLaw ["script"] (defScope sLaw) := ⟨rfl, rfl, rfl, by decide +kernel, rfl, by decide +kernel, by decide +kernel⟩
def just1 {α : Type} : List α → List α → List α := fun _ ws => ws
def spBoolT : Sp := fun vs H Q _ => ∃ x : Addr, vs = [.ref x] ∧ Q (.bl true) H
def spBoolF : Sp := fun vs H Q _ => ∃ x : Addr, vs = [.ref x] ∧ Q (.bl false) H
abbrev ttOdd (CY CK CP CD : Addr) (K : PySem.W.Frag) : TT := tTest (tOp (fun x y H Q => ∃ a b, x = .bl a ∧ y = .bl b ∧ Q (.bl (!decide (a = b))) H) (tCall (spShows K CY CK CP CD) [] E0 (tCons (tVar 3) (tCons (tVar 8) tNil))) (tC (.bl false)))
def spLaw (K : PySem.W.Frag) : Sp := fun vs H Q _ => ∃ (a : Addr) (ns : List Int), vs = [.ref a] ∧ SqL K H a (ns.map V.int) ∧ ns.length ≤ 63 ∧ ∀ H', Q (.bl true) H'
theorem eu_tupleZ {K : PySem.W.Frag} {σ : L2.St} {H : Hp} {ta : TE} {l : Addr} {xs : List V} (h : Evl.Ev ta σ H (.ref l)) (hl : SqL K H l xs) : Evl.EvU (tCB (fun xs H Q => ∃ p ys, xs = [V.ref p] ∧ ((SqL K H p ys ∧ ∀ l, H l = none → Q (V.ref l) (upd H l (HO.tup ys))) ∨ (SqT K H p ys ∧ Q (V.ref p) H))) (tCons ta tNil)) σ H xs := fun H1 e Q q =>
  h H1 e _ fun H2 e2 => ⟨l, xs, rfl, .inl ⟨Evl.ex_l (e.trans e2) hl, fun p hp => q p _ (Evl.fresh_back e2 hp) (e2.trans (Evl.Ex.new hp)) upd_same⟩⟩
theorem for_raw {K : PySem.W.Frag} {te : TE} {g : TG} {tb tz : TS} {D : Ends} {σ : L2.St} {H : Hp} (h : te σ H fun v H' => tSeq (tFor (iList K (tC v)) g tb) tz D σ H') : tSeq (tFor (iList K te) g tb) tz D σ H := h
/-- what is left of a told paper: its class and its word -/
def Left (CY CK : Addr) (H : Hp) (ws : List Int) (y : V) : Prop := ∃ x dx fs, y = .ref x ∧ ((calmB ws = true ∧ H x = some (.ins CK dx fs) ∧ fs.lookup ("word" : Str) = some (.str "calm")) ∨ (calmB ws = false ∧ H x = some (.ins CY dx fs) ∧ fs.lookup ("word" : Str) = some (.str "stray")))
theorem Told.left {K : PySem.W.Frag} {CY CK : Addr} {H : Hp} {ws : List Int} {y : V} (h : Told K CY CK H ws y) : Left CY CK H ws y := by
  rcases h with ⟨x, wk, rfl, hs, _, dx, fs, v, h1, h2, _⟩ | ⟨C, c, rfl, dx, fs, h1, h2⟩
  · exact ⟨x, dx, fs, rfl, .inr ⟨calmB_no (not_calm hs), h1, h2⟩⟩
  · exact ⟨c, dx, fs, rfl, .inl ⟨calmB_yes C, h1, h2⟩⟩
theorem Left.kept {CY CK t : Addr} {H H' : Hp} {ws : List Int} {y : V} {xs : List V} (h : Left CY CK H ws y) (ht : H t = some (.lst xs)) (k : Kept t H H') : Left CY CK H' ws y := by
  obtain ⟨x, dx, fs, rfl, h⟩ := h
  refine ⟨x, dx, fs, rfl, h.imp (fun ⟨a, b, c⟩ => ⟨a, k _ _ (fun z => ?_) b, c⟩) fun ⟨a, b, c⟩ => ⟨a, k _ _ (fun z => ?_) b, c⟩⟩
  all_goals
    rw [z, ht] at b
    cases b
theorem Left.ex {CY CK : Addr} {H H' : Hp} {ws : List Int} {y : V} (h : Left CY CK H ws y) (e : Evl.Ex H H') : Left CY CK H' ws y := by
  obtain ⟨x, dx, fs, rfl, h⟩ := h
  exact ⟨x, dx, fs, rfl, h.imp (fun ⟨a, b, c⟩ => ⟨a, e _ _ b, c⟩) fun ⟨a, b, c⟩ => ⟨a, e _ _ b, c⟩⟩
theorem tub_lst {H : Hp} {t c : Addr} {n : Nat} (T : Tub H t c n) : ∃ xs, H t = some (.lst xs) := by
  obtain ⟨cs, turn, rest, h1, _⟩ := T
  exact ⟨_, h1⟩
theorem pv_mono {K : PySem.W.Frag} {CY CK CP CD : Addr} {kk : PK} : Mono (fun v H => PV K CY CK CP CD H v kk) := fun v H H' e h => h.ex e
theorem fixable_odd : Fixable 2 (.tuple [.list [.int 0, .int 0]]) := .inr ⟨_, .inr rfl, by show 1 ≤ 4000; omega, fun e he => by
  rw [List.mem_singleton.mp he]
  exact .inr ⟨_, .inl rfl, by show 2 ≤ 4000; omega, fun e he => by
    simp only [List.mem_cons, List.not_mem_nil, or_false, or_self] at he
    rw [he]
    rfl⟩⟩
section
open Evl
variable {K : PySem.W.Frag} {σ : L2.St} {H : Hp} {ta tb te : TE} {CY CK CP CD pc : Addr} {ws : List Int} {E : XK}
theorem ev_showsCalmN (ha : Ev ta σ H (.ref pc)) (hL : LineAt K H pc ws) : Ev (tCallN 0 2 (spShows K CY CK CP CD) just1 E tNil (tCons ta (tCons (tMake CK (spCalmI CK) [] E0 tNil) tNil))) σ H (.bl (calmB ws)) := fun H1 e Q q =>
  show tCons ta (tCons (tMake CK (spCalmI CK) [] E0 tNil) tNil) σ H1 (fun ws H2 => ([] : List V).length = 0 ∧ ws.length = 2 ∧ spShows K CY CK CP CD ws H2 Q E) from cons_any (ha H1 e _ fun H2 e2 => cons_any fun x dx hx hd ne => ⟨x, dx, rfl, upd_same, fun H' fs hb hx' hw => ⟨rfl, by
    have eM : Ex H2 (upd (upd H2 dx (.own x)) x (.ins CK dx [])) := fun b o h => by rw [upd_ne (ne_of_none h hx), upd_ne (ne_of_none h hd)]; exact h
    have e3 : Ex H2 H' := fun b o h => hb b o (ne_of_none h hx) (eM _ _ h)
    exact ⟨rfl, rfl, pc, .ref x, ws, .calm, rfl, hL.ex ((e.trans e2).trans e3), .calm ⟨dx, fs, hx', hw⟩, fun H3 e4 => q H3 ((e2.trans e3).trans e4)⟩⟩⟩)
theorem ev_lstray {p : Addr} (ha : Ev ta σ H (.ref p)) (hp : H p = some (.lst (ws.map V.int))) (hl : ws.length ≤ 40) : Ev (tCall (spLStray K) [] E (tCons ta tNil)) σ H (.bl (!calmB ws)) := fun H1 e Q q =>
  call_raw (cons_any (ha H1 e _ fun H2 e2 => ⟨p, ws, rfl, .inl (sq_of ((e.trans e2) _ _ hp)), hl, fun H3 e3 => ⟨fun hs => by
    have := q H3 (e2.trans e3)
    rw [calmB_no (strayed_iff.mp hs)] at this
    exact this, fun hs => by
    have := q H3 (e2.trans e3)
    rw [calmB_yes (Classical.not_not.mp fun z => hs (strayed_iff.mpr z))] at this
    exact this⟩⟩))
theorem ev_pcalm {p : Addr} (ha : Ev ta σ H (.ref p)) (hp : H p = some (.lst (ws.map V.int))) (hl : ws.length ≤ 400) : Ev (tCall (spPCalm K) [] E (tCons ta tNil)) σ H (.bl (calmB ws)) := fun H1 e Q q =>
  call_raw (cons_any (ha H1 e _ fun H2 e2 => ⟨p, ws, rfl, (e.trans e2) _ _ hp, hl, fun H3 e3 => q H3 (e2.trans e3)⟩))
/-- Paper('calm') -/
theorem ef_paper (TP : TPap K CP) {s : Str} : EvF (StX.tMakeR CP (fun vs H Q E => ∃ ws rest, vs = ws ++ rest ∧ ws.length = 2 ∧ rest.length ≤ sizeLine ∧ ∀ p, H p = Option.none → spPaper K 2 CP (ws ++ [V.ref p]) (upd H p (.tup rest)) Q E) E0 (tCons (tC (.str s)) tNil)) σ H (fun v H => PV K CY CK CP CD H v .other) := fun H1 e Q q x dx hx hd ne => by
  have eM : Ex H1 (upd (upd H1 dx (.own x)) x (.ins CP dx [])) := fun b o h => by rw [upd_ne (ne_of_none h hx), upd_ne (ne_of_none h hd)]; exact h
  refine ⟨[.ref x, .str s], [], rfl, rfl, Nat.zero_le _, fun p hp => ?_⟩
  have eP := Ex.new (o := .tup []) hp
  refine ⟨x, dx, p, .str s, [], [], [], rfl, eP _ _ upd_same, TP, by show 0 < 900; omega, upd_same, .nil, .inr ⟨[], .inr rfl, by show 0 ≤ 4000; omega, fun e he => nomatch he⟩, fun t us H' hb hx' _ _ => ⟨rfl, q (.ref x) H' (fun b o h => hb b o (ne_of_none h hx) (eP _ _ (eM _ _ h))) (.pap (nw_of hx hx'))⟩⟩
/-- Denial('stray', [0, 0]) -/
theorem ef_denial (TD : TPap K CD) {s : Str} : EvF (StX.tMakeR CD (fun vs H Q E => ∃ ws rest, vs = ws ++ rest ∧ ws.length = 2 ∧ rest.length ≤ sizeLine ∧ ∀ p, H p = Option.none → spPaper K 2 CD (ws ++ [V.ref p]) (upd H p (.tup rest)) Q E) E0 (tCons (tC (.str s)) (tCons (tLst (tCons (tC (.int 0)) (tCons (tC (.int 0)) tNil))) tNil))) σ H (fun v H => PV K CY CK CP CD H v .other) := fun H1 e Q q => by
  refine ⟨by show 2 ≤ sizeLine; decide, fun l hl x dx hx hd ne => ?_⟩
  have eL := Ex.new (o := .lst [.int 0, .int 0]) hl
  have hL := upd_same (H := H1) (a := l) (o := .lst [.int 0, .int 0])
  generalize upd H1 l (.lst [.int 0, .int 0]) = G at *
  have eM : Ex G (upd (upd G dx (.own x)) x (.ins CD dx [])) := fun b o h => by rw [upd_ne (ne_of_none h hx), upd_ne (ne_of_none h hd)]; exact h
  refine ⟨[.ref x, .str s], [.ref l], rfl, rfl, by show 1 ≤ sizeLine; decide, fun p hp => ?_⟩
  have eP := Ex.new (o := .tup [.ref l]) hp
  refine ⟨x, dx, p, .str s, [.ref l], [.list [.int 0, .int 0]], [], rfl, eP _ _ upd_same, TD, by show 0 < 900; omega, upd_same, .cons (.lst (sq_of (eP _ _ (eM _ _ hL))) (.cons (.int 0) (.cons (.int 0) .nil))) .nil, fixable_odd, fun t us H' hb hx' _ _ => ⟨rfl, q (.ref x) H' (fun b o h => hb b o (ne_of_none (eL _ _ h) hx) (eP _ _ (eM _ _ (eL _ _ h)))) (.den (nw_of (fresh_back eL hx) hx'))⟩⟩
end
section
variable {P : Program} {w : World} {K : PySem.W.Frag} {mg : Str → Option Value} {base : Heap}
theorem ok_paperB {f : Addr} {oc od osl : _} {kV doc pm cdv ct : Value} {an : Option Addr} {k : Nat}
    (lk : K.lookup f = some ⟨oc, od, .func (PySem.W.fnOf "__bool__" "Paper.__bool__" (defArgs sPaperB) (defBody sPaperB) (defScope sPaperB) .none kV doc pm an cdv ct), osl⟩) (hcd : PySem.W.codeIn K cdv "Paper.__bool__" = true) :
    FnOk P w K mg base CX0 (k + 1) f (PySem.W.fnOf "__bool__" "Paper.__bool__" (defArgs sPaperB) (defBody sPaperB) (defScope sPaperB) .none kV doc pm an cdv ct) ["self"] spBoolT := by
  refine fn_of lk hcd scPaperB (fun {vs H Q E} h => ?_) (fun A outer s H vs Q E hr h => ?_)
  · obtain ⟨x, rfl, _⟩ := h
    rfl
  · obtain ⟨x, rfl, q⟩ := h
    exact ⟨_, pss_one (ps_ret pe_bl), q⟩
theorem ok_denialB {f : Addr} {oc od osl : _} {kV doc pm cdv ct : Value} {an : Option Addr} {k : Nat}
    (lk : K.lookup f = some ⟨oc, od, .func (PySem.W.fnOf "__bool__" "Denial.__bool__" (defArgs sDenialB) (defBody sDenialB) (defScope sDenialB) .none kV doc pm an cdv ct), osl⟩) (hcd : PySem.W.codeIn K cdv "Denial.__bool__" = true) :
    FnOk P w K mg base CX0 (k + 1) f (PySem.W.fnOf "__bool__" "Denial.__bool__" (defArgs sDenialB) (defBody sDenialB) (defScope sDenialB) .none kV doc pm an cdv ct) ["self"] spBoolF := by
  refine fn_of lk hcd scDenialB (fun {vs H Q E} h => ?_) (fun A outer s H vs Q E hr h => ?_)
  · obtain ⟨x, rfl, _⟩ := h
    rfl
  · obtain ⟨x, rfl, q⟩ := h
    exact ⟨_, pss_one (ps_ret pe_bl), q⟩
set_option maxHeartbeats 4000000 in
theorem ok_law {f fT fD fLS fBe fLo CY CK CP CD fS fP fLC fPC fJ fSh fLI fK fY CB fPa fDe fBF fBT : Addr} {fd fdT fdD fdLS fdBe fdLo fdS fdP fdLC fdPC fdJ fdSh fdLI fdK fdY fdBF fdBT : FuncData} {k : Nat} (F : Fun K "law" "law" sLaw f fd)
    (FT : Fun K "_law_cord" "_law_cord" sTub fT fdT) (GT : FnOk P w K mg base CX0 (k + 1) fT fdT ["script"] (spTub K)) (bT : Binds K fdT ["script"] []) (gT : mg "_law_cord" = some (.ref fT))
    (FD : Fun K "_law_drawn" "_law_drawn" sDrawn fD fdD) (GD : FnOk P w K mg base CX0 (k + 1) fD fdD ["cord"] spDrawn) (bD : Binds K fdD ["cord"] []) (gD : mg "_law_drawn" = some (.ref fD))
    (FLS : Fun K "_law_stray" "_law_stray" sLStray fLS fdLS) (GLS : FnOk P w K mg base CX0 (k + 1) fLS fdLS ["colours"] (spLStray K)) (bLS : Binds K fdLS ["colours"] []) (gLS : mg "_law_stray" = some (.ref fLS))
    (FBe : Fun K "_law_bent" "_law_bent" sBent fBe fdBe) (GBe : FnOk P w K mg base CX0 (k + 1) fBe fdBe ["cord", "colours", "told"] (spBent K CY CK)) (bBe : Binds K fdBe ["cord", "colours", "told"] []) (gBe : mg "_law_bent" = some (.ref fBe))
    (FLo : Fun K "_law_long_right" "_law_long_right" sLong fLo fdLo) (GLo : FnG P w K mg base (k + 2) fLo fdLo ["cord"] spLongR) (bLo : Binds K fdLo ["cord"] []) (gLo : mg "_law_long_right" = some (.ref fLo))
    (W : Ask P w K mg base k CY CK CP CD fS fP fLC fPC fJ fSh fLI fK fY CB fdS fdP fdLC fdPC fdJ fdSh fdLI fdK fdY) (kSh : KBn K fdSh ["colours", "value"] 0 ["colours", "value"] just1 just1)
    (MP : Mk K CP fPa) (GP0 : FnPap P w K mg base k 2 CP fPa) (gCP : mg "Paper" = some (.ref CP)) (TP : TPap K CP) (MD : Mk K CD fDe) (GD0 : FnPap P w K mg base k 2 CD fDe) (gCD : mg "Denial" = some (.ref CD)) (TD : TPap K CD) (TY : TPap K CY) (TK : TPap K CK)
    (GBF : FnOk P w K mg base CX0 k fBF fdBF ["self"] spBoolF) (bBF : Binds K fdBF ["self"] []) (hsF : PySem.W.findIn K (.ref CY) "__bool__" = some (some (.ref fBF))) (hfF : PySem.W.isFn K (.ref fBF) = true)
    (GBT : FnOk P w K mg base CX0 k fBT fdBT ["self"] spBoolT) (bBT : Binds K fdBT ["self"] []) (hsT : PySem.W.findIn K (.ref CK) "__bool__" = some (some (.ref fBT))) (hfT : PySem.W.isFn K (.ref fBT) = true)
    (mi : mg "isinstance" = none) (mrepr : mg "repr" = none) (mtuple : mg "tuple" = none) (mrange : mg "range" = none) (mbool : mg "bool" = none) : FnG P w K mg base (k + 3) f fd ["script"] (spLaw K) := by
  obtain ⟨FS, GS, bS, gS, FP, GP, bP, gP, FLC, GLC, bLC, gLC, FPC, GPC, bPC, gPC, FJ, GJ, bJ, gJ, FSh, GSh, bSh, gSh, FLI, GLI, bLI, gLI, MK, GK, bK, gCK, MY, GY, bY, gCY, T, nWk⟩ := W
  refine fn_g F scLaw (fun {vs H Q E} h => ?_) (fun cdv A outer s H vs Q E hgd hr h => ?_)
  · obtain ⟨a, ns, rfl, _⟩ := h
    rfl
  · obtain ⟨a, ns, rfl, hS, hl, q⟩ := h
    have nd := scLaw.nd
    have hk := hr.mono (show k + 1 ≤ k + 2 by omega)
    refine ⟨_, pss_cons (ps_set (i := 1) nd rfl (.inl rfl) (pe_call GT hk (by rfl) gT FT.kp bT .nil pass0 (pa_cons (pv 0) (pa_nil)))) (pss_cons (ps_for PassesOwn.never rfl (pi_range1 (by rfl) mrange (pa_cons (pe_int) (pa_nil))) (pg_name (i := 2) nd rfl (Or.inl rfl)) (pss_cons (ps_set (i := 3) nd rfl (.inr rfl) (pe_call GD hk (by rfl) gD FD.kp bD .nil pass0 (pa_cons (pv 1) (pa_nil)))) (pss_cons (ps_set (i := 4) nd rfl (.inl rfl) (pe_call GLS hk (by rfl) gLS FLS.kp bLS .nil pass0 (pa_cons (pv 3) (pa_nil)))) (pss_cons (ps_if (pt_cmpR op_eq (pv 4) (pe_call GPC hk (by rfl) gPC FPC.kp bPC .nil pass0 (pa_cons (pv 3) (pa_nil))) (nomark _)) (pss_one (ps_ret (pe_bl))) (pss_nil)) (Evl.pss_cut (ps_set (i := 5) nd rfl (.inl rfl) (pe_call GJ hk (by rfl) gJ FJ.kp bJ .nil passF (pa_cons (pe_callTy call_tuple_of (by rfl) mtuple (by decide +kernel) (pa_cons (pv 3) (pa_nil))) (pa_nil)))) (pss_cons (ps_if (PW.pt (pw_or (pt_cmpR op_eq (pe_callB call_isi (by rfl) mi (by decide +kernel) (pa_cons (pv 5) (pa_cons (pe_glob (v := .ref CK) (by rfl) gCK rfl) (pa_nil)))) (pv 4) (nomark _)) (pw_or1 (PW.pt (pw_and (pt_val (pv 4)) (pw_and1 (PW.pt (pw_or (pt_not (pt_val (pe_callB call_isi (by rfl) mi (by decide +kernel) (pa_cons (pv 5) (pa_cons (pe_glob (v := .ref CY) (by rfl) gCY rfl) (pa_nil)))))) (pw_or1 (pt_not (pt_val (pe_call GLI hk (by rfl) gLI FLI.kp bLI .nil pass0 (pa_cons (pv 3) (pa_cons (pe_fld (pv 5) (by rfl)) (pa_nil))))))))))))))) (pss_one (ps_ret (pe_bl))) (pss_nil)) (pss_cons (ps_if (PW.pt (pw_or (pt_cmpR op_isnot_bl (pe_call GSh hk (by rfl) gSh FSh.kp bSh .nil passF (pa_cons (pv 3) (pa_cons (pv 5) (pa_nil)))) (pe_bl) (nomark _)) (pw_or1 (pt_cmpR op_ne (pe_callB (call_reprX hgd hr.units) (by rfl) mrepr (by decide +kernel) (pa_cons (pe_callN0 GSh hk (by rfl) gSh FSh.kp kSh passF (pk_cons (pv 3) (pk_cons (pe_make0 MK GK hk (by rfl) gCK bK .nil pass0) (pk_nil)))) (pa_nil))) (pe_callB (call_reprX hgd hr.units) (by rfl) mrepr (by decide +kernel) (pa_cons (pe_not (pv 4)) (pa_nil))) (nomark _))))) (pss_one (ps_ret (pe_bl))) (pss_nil)) (pss_cons (ps_for PassesOwn.never rfl (pi_list (pe_call GBe hk (by rfl) gBe FBe.kp bBe .nil pass0 (pa_cons (pv 1) (pa_cons (pv 3) (pa_cons (pv 5) (pa_nil)))))) (pg_name (i := 6) nd rfl (Or.inl rfl)) (pss_one (ps_if (pt_cmpR op_ne (pe_callB (call_reprX hgd hr.units) (by rfl) mrepr (by decide +kernel) (pa_cons (pe_call GSh hk (by rfl) gSh FSh.kp bSh .nil passF (pa_cons (pv 3) (pa_cons (pv 6) (pa_nil)))) (pa_nil))) (pe_callB (call_reprX hgd hr.units) (by rfl) mrepr (by decide +kernel) (pa_cons (pe_call GLI hk (by rfl) gLI FLI.kp bLI .nil pass0 (pa_cons (pv 3) (pa_cons (pe_fld (pv 6) (by rfl)) (pa_nil)))) (pa_nil))) (nomark _)) (pss_one (ps_ret (pe_bl))) (pss_nil)))) (pss_cons (ps_set (i := 7) nd rfl (.inl rfl) (pe_lst (pa_cons (pe_non) (pa_cons (pe_bl) (pa_cons (pe_str) (pa_cons (StX.pe_makeR MP GP0 hk (by rfl) gCP pass0 (pa_cons (pe_str) (pa_nil))) (pa_cons (StX.pe_makeR MD GD0 hk (by rfl) gCD pass0 (pa_cons (pe_str) (pa_cons (pe_lst (pa_cons (pe_int) (pa_cons (pe_int) (pa_nil)))) (pa_nil)))) (pa_cons (pe_tup (pa_cons (pe_int) (pa_cons (pe_int) (pa_nil)))) (pa_cons (pe_int) (pa_nil)))))))))) (pss_cons (ps_if (pt_cmpR (op_neD hr.units) (pe_lc (own := [("value", 8)]) (g := gName 8) (tt := ttOdd CY CK CP CD K) (te := tVar 8) rfl nd (pi_list (pv 7)) (blkOk_by (N := nLaw) (sc := defScope sLaw) (by decide +kernel)) (fun _ _ _ _ _ => pg_name (i := 8) nd rfl (Or.inl rfl)) (fun _ _ _ _ _ => pts_one (pt_cmpR op_isnot_bl (pe_call GSh hk (by rfl) gSh FSh.kp bSh .nil passF (pa_cons (pv 3) (pa_cons (pv 8) (pa_nil)))) (pe_bl) (nomark _))) (fun _ _ _ _ _ => pv 8)) (pe_lst pa_nil) (nomark _)) (pss_one (ps_ret (pe_bl))) (pss_nil)) (pss_one (ps_if (PW.pt (pw_or (pt_cmpR op_ne (pe_fld (pv 5) (by rfl)) (pe_ifExp (pt_val (pv 4)) pe_str pe_str) (nomark _)) (pw_or (pt_cmpR op_eq (pe_callTy (CallR.or (call_boolO GBF hr bBF pass0 hsF hfF) (call_boolO GBT hr bBT pass0 hsT hfT)) (by rfl) mbool (by decide +kernel) (pa_cons (pv 5) (pa_nil))) (pv 4) (nomark _)) (pw_or1 (pt_cmpR op_ne (pe_callB call_isi (by rfl) mi (by decide +kernel) (pa_cons (pv 5) (pa_cons (pe_glob (v := .ref CD) (by rfl) gCD rfl) (pa_nil)))) (pv 4) (nomark _)))))) (pss_one (ps_ret (pe_bl))) (pss_nil))))))))))))) (pss_one (ps_ret (pe_callG GLo hgd hr (by rfl) gLo FLo.kp bLo pass0 (pa_cons (pv 1) (pa_nil)))))), ?_⟩
    refine asg_go ⟨.ref a, rfl, a, ns, rfl, hS, by omega, fun t c0 H1 ht hc sm T0 => ?_⟩
    dsimp only [List.set_cons_zero, List.set_cons_succ]
    refine Evl.q_forR1 (n := 3) (Evl.ea_cons Evl.ev_c Evl.ea_nil) ⟨by decide, by decide⟩ (fun i σ' H' => ∃ y2 y3 y4 y5 y6 y7, σ' = [some (.ref a), some (.ref t), y2, y3, y4, y5, y6, y7, none] ∧ Tub H' t c0 (100 * i))
      (fun H2 e2 => ⟨none, none, none, none, none, none, rfl, (T0.ex e2).mono (by omega)⟩) ?_ ?_
    · rintro i σ' H' hi ⟨y2, y3, y4, y5, y6, y7, rfl, T1⟩
      have hi : i < 3 := by omega
      refine asg_go ⟨.ref t, rfl, t, c0, 100 * i, rfl, T1, by omega, fun pc ws H2 dw => ?_⟩
      dsimp only [List.set_cons_zero, List.set_cons_succ]
      have hl30 := dw.len
      have line : ∀ {G : Hp}, G pc = some (.lst (ws.map V.int)) → LineAt K G pc ws := fun h => ⟨.inl (Evl.sq_of h), by omega, dw.pos⟩
      have pt : pc ≠ t := (T1.ne dw.new).1
      refine Evl.q_asg (v := .bl (!calmB ws)) (ev_lstray (Evl.ev_var rfl) dw.at_ (by omega)) fun H3 e3 => ?_
      dsimp only [List.set_cons_zero, List.set_cons_succ]
      have h3 := e3 _ _ dw.at_
      have T3 := dw.tub.ex e3
      refine Evl.q_when (b := false) (Evl.et_is (Evl.et_test (Evl.ev_op (Evl.ev_var rfl) (ev_pcalm (Evl.ev_var rfl) h3 (by omega)) (Evl.rv_eq rfl))) (by cases calmB ws <;> rfl)) (fun z => nomatch z) fun _ H4 e4 => ?_
      have h4 := e4 _ _ h3
      have T4 := T3.ex e4
      clear h3 T3 e3 e4
      refine Evl.q_cut (M := fun σ' H' => ∃ y : V, σ' = [some (.ref a), some (.ref t), some (.int (i : Int)), some (.ref pc), some (.bl (!calmB ws)), some y, y6, y7, none] ∧ Evl.Ex H4 H' ∧ Told K CY CK H' ws y) ?_ ?_
      · refine asg_last (call_raw (cons_any (eu_tupleZ (Evl.ev_var rfl) (Evl.sq_of h4) H4 (Evl.Ex.refl _) _ fun pu H5 hpu e5 h5 => ?_)))
        exact ⟨pu, ws, rfl, ⟨.inr (Evl.st_of h5), by omega, dw.pos⟩, fun C c1 H6 e6 hc1 hcal => ⟨_, rfl, e5.trans e6, .inr ⟨C, c1, rfl, hcal⟩⟩, fun wk x H6 hs hwl hx e6 hst => ⟨_, rfl, e5.trans e6, .inl ⟨x, wk, rfl, hs, hwl, hst⟩⟩⟩
      rintro σ' H5 ⟨y, rfl, e5, hy⟩
      have h5 := e5 _ _ h4
      have T5 := T4.ex e5
      clear h4 T4 e5
      obtain ⟨kk, hP, hkk, hky, hsd⟩ := hy.pv (CP := CP) (CD := CD)
      -- told's kind, and its walk
      refine Evl.q_when (b := false) (Evl.et_or (a := false) (Evl.et_is (Evl.et_test (Evl.ev_op (Evl.ev_cb (Evl.ea_cons (Evl.ev_var rfl) (Evl.ea_cons Evl.ev_c Evl.ea_nil)) (rc_isK T hP)) (Evl.ev_var rfl) (Evl.rv_eq rfl))) (by rw [hkk]; cases calmB ws <;> rfl)) fun _ =>
        Evl.et_is (Evl.et_and (a := !calmB ws) (b := false) (Evl.et_B (Evl.ev_var rfl)) fun hcb => Evl.et_or (a := false) (b := false) (Evl.et_is (Evl.et_not (Evl.et_B (Evl.ev_cb (Evl.ea_cons (Evl.ev_var rfl) (Evl.ea_cons Evl.ev_c Evl.ea_nil)) (rc_isY T hP)))) (by rw [hky, hcb]; rfl)) fun _ => ?_) (Bool.and_false _)) (fun z => nomatch z) fun _ H6 e6 => ?_
      · rcases hy with ⟨x, wk, rfl, hsw, hwl, hx⟩ | ⟨C, c1, rfl, hc1⟩
        · obtain ⟨dx, fs, u, x1, x2, x3, x4⟩ := hx
          obtain ⟨o, ho, ho2⟩ := wv_bent (ws := ws) x4 (bent_ws wk (by omega))
          refine Evl.et_is (Evl.et_not (Evl.et_B (ev_lis (Evl.ev_var rfl) h5 (v := u) (fun H9 e9 Q' q' => ⟨.ref x, rfl, x, CY, dx, fs, u, rfl, e9 _ _ x1, T.iY.cl, nWk, x3, q' H9 (Evl.Ex.refl _)⟩) ho))) ?_
          rw [ho2]
          unfold strayD
          rw [show intsD (.tuple (wk.map PyData.int)) = some wk from intsL_of wk]
          show (!strayB ws wk) = false
          rw [stray_of hsw]
          rfl
        · rw [calmB_yes C] at hcb
          cases hcb
      have h6 := e6 _ _ h5
      have T6 := T5.ex e6
      have hP6 := hP.ex e6
      have hy6 := hy.ex e6
      clear h5 T5 hP hy e6
      refine Evl.q_when (b := false) (Evl.et_or (a := false) (Evl.et_is (Evl.et_test (Evl.ev_op (Evl.ev_is (ev_shows (Evl.ev_var rfl) (line h6) (Evl.ev_var rfl) hP6) (congrArg V.bl hsd)) Evl.ev_c fun H6 _ Q' q' => ⟨true, true, rfl, rfl, q' H6 (Evl.Ex.refl _)⟩)) rfl) fun _ =>
        et_neStr (ev_reprT (ev_showsCalmN (Evl.ev_var rfl) (line h6))) (ev_reprT (Evl.ev_is (Evl.ev_notV (Evl.ev_var rfl)) (by rw [Bool.not_not])))) (fun z => nomatch z) fun _ H7 e7 => ?_
      have h7 := e7 _ _ h6
      have T7 := T6.ex e7
      have hy7 := hy6.ex e7
      clear h6 T6 hP6 hy6 e7
      -- papers bent
      refine for_raw ⟨.ref t, rfl, .ref pc, rfl, y, rfl, t, c0, 100 * i + 60, pc, y, ws, rfl, T7, by omega, h7, by omega, hy7, fun pb xs H8 hpb h8 l16 all k8 T8 => ?_⟩
      have hc8 := k8 _ _ pt h7
      obtain ⟨zt, hzt⟩ := tub_lst T7
      have hL8 := hy7.left.kept hzt k8
      refine Evl.q_forL (xs := xs) Evl.ev_c (Evl.sq_of h8) (fun _ σ' H' => ∃ z6, σ' = [some (.ref a), some (.ref t), some (.int (i : Int)), some (.ref pc), some (.bl (!calmB ws)), some y, z6, y7, none] ∧ Evl.Ex H8 H') (fun H9 e9 => ⟨_, rfl, e9⟩) (fun _ σ' H' _ ⟨_, _, e9⟩ => Evl.ex_l e9 (Evl.sq_of h8)) ?_ ?_
      · rintro j v σ' H9 hj ⟨z6, rfl, e9⟩
        obtain ⟨x, d, rfl, hx, hb⟩ := all v (List.mem_of_getElem? hj)
        have hx9 := hx.ex e9
        have hwd : WalkD d := hb.elim (fun ⟨ds, h1, h2, _⟩ => .inl ⟨ds, h1, h2⟩) .inr
        have hx9' := hx9
        obtain ⟨dx, fs, u, x1, x2, x3, x4⟩ := hx9'
        obtain ⟨o, ho, ho2⟩ := wv_bent (ws := ws) x4 hb
        dsimp only [gName, List.set_cons_zero, List.set_cons_succ]
        refine Evl.s_when (b := false) (et_neStr (ev_reprT (ev_shows (kk := .stray d) (Evl.ev_var rfl) (line (e9 _ _ hc8)) (Evl.ev_var rfl) (.stray hx9 hwd))) (ev_reprT (Evl.ev_is (ev_lis (Evl.ev_var rfl) (e9 _ _ hc8) (v := u) (fun H9 e9 Q' q' => ⟨.ref x, rfl, x, CY, dx, fs, u, rfl, e9 _ _ x1, T.iY.cl, nWk, x3, q' H9 (Evl.Ex.refl _)⟩) ho) (congrArg V.bl ho2)))) (fun z => nomatch z) fun _ H10 e10 => ⟨_, rfl, e9.trans e10⟩
      · rintro σ' H9 ⟨z6, rfl, e9⟩
        have h9 := e9 _ _ hc8
        have T9 := T8.ex e9
        have hL9 := hL8.ex e9
        clear h8 hc8 T8 hL8 e9 all k8 hpb h7 T7 hy7 hzt
        -- odd
        refine asg_go (ef_lst (G := H9) (R := fun v H => PV K CY CK CP CD H v .other) (R' := fun v H' => ∃ p xs, v = .ref p ∧ H' p = some (.lst xs) ∧ xs.length = 7 ∧ ∀ u ∈ xs, PV K CY CK CP CD H' u .other) (n := 7) pv_mono (ef_cons pv_mono ?_ (ef_cons pv_mono ?_ (ef_cons pv_mono ?_ (ef_cons pv_mono ?_ (ef_cons pv_mono ?_ (ef_cons pv_mono ?_ (ef_cons pv_mono ?_ ef_nil))))))) (by decide) (fun p xs H h1 h2 h3 => ⟨p, xs, rfl, h1, h2, h3⟩) H9 (Evl.Ex.refl _) _ fun v H10 e10 hv => ?_)
        · exact ef_c Evl.ev_c fun _ => .flat .non
        · exact ef_c Evl.ev_c fun _ => .flat (.bl true)
        · exact ef_c Evl.ev_c fun _ => .flat (.str _)
        · exact ef_paper TP
        · exact ef_denial TD
        · exact ef_u (Evl.eu_tup (Evl.ea_cons Evl.ev_c (Evl.ea_cons Evl.ev_c Evl.ea_nil)) (by show 2 ≤ 100000; decide)) fun p H hp => .flat (.tup (Evl.st_of hp))
        · exact ef_c Evl.ev_c fun _ => .flat (.int 5)
        obtain ⟨po, os, rfl, h10, l10, r10⟩ := hv
        have ho10 := nw_ex _ _ h10
        have r10' : ∀ u ∈ os, PV K CY CK CP CD H10 u .other := fun u hu => (r10 u hu).ex nw_ex
        clear r10 h10
        have hc10 := e10 _ _ h9
        have T10 := T9.ex e10
        have hL10 := hL9.ex e10
        clear h9 T9 hL9 e10
        dsimp only [List.set_cons_zero, List.set_cons_succ]
        refine Evl.q_when (b := false) (Evl.et_is (Evl.et_test (ev_neNilD (xs := Evl.given os.length (fun _ => false) fun i => os.getD i .non)
            (el_lcI (te := tVar 8) (t := ttOdd CY CK CP CD K) (vs := [8]) (fun _ => false) (fun i => os.getD i .non) (ei_list (Evl.ev_var (i := 7) rfl) (Evl.sq_of ho10)) (aims_at (j := 8)) (fun _ => rfl) (by omega) (fun j G eG hj => ?_) (fun j G eG hj _ => Evl.ev_var rfl)) (Evl.el_lst Evl.ea_nil (Nat.zero_le _)) fun v hv => ?_)) ?_) (fun z => nomatch z) fun _ H11 e11 => ?_
        · have hm := r10' (os.getD j .non) (by
            rw [List.getD_eq_getElem?_getD, List.getElem?_eq_getElem hj]
            exact List.getElem_mem hj)
          exact Evl.et_is (Evl.et_test (Evl.ev_op (ev_shows (kk := .other) (Evl.ev_var rfl) (line (eG _ _ hc10)) (Evl.ev_var rfl) (hm.ex eG)) Evl.ev_c fun H6 _ Q' q' => ⟨false, false, rfl, rfl, q' H6 (Evl.Ex.refl _)⟩)) rfl
        · exfalso
          unfold Evl.given at hv
          obtain ⟨j, hj, _⟩ := List.mem_map.mp hv
          exact absurd (List.mem_filter.mp hj).2 (by decide)
        · rw [given_empty]
          have : ((List.range os.length).all fun _ => !false) = true := List.all_eq_true.mpr fun _ _ => rfl
          rw [this]
          rfl
        have T11 := T10.ex e11
        obtain ⟨x, dx, fs, rfl, hx⟩ := hL10.ex e11
        clear hL10 T10 e11 r10' ho10 hc10
        rcases hx with ⟨hcb, x1, x2⟩ | ⟨hcb, x1, x2⟩
        · rw [hcb]
          refine Evl.s_when (b := false) (Evl.et_or (a := false) (et_neStr (z := "calm") (fun H9 e9 Q' q' => ⟨.ref x, rfl, x, CK, dx, fs, .str "calm", rfl, e9 _ _ x1, T.iK.cl, TK.nW, x2, q' H9 (Evl.Ex.refl _)⟩) (Evl.ev_if (b := false) (Evl.et_B (Evl.ev_var rfl)) (fun z => nomatch z) fun _ => Evl.ev_c)) fun _ =>
            Evl.et_or (a := false) (Evl.et_is (Evl.et_test (Evl.ev_op (x := .bl true) (fun H9 e9 Q' q' => cb_go (cons_any ⟨.ref x, rfl, .inr ⟨x, dx, fs, rfl, e9 _ _ x1, x, rfl, true, rfl, q' H9 (Evl.Ex.refl _)⟩⟩)) (Evl.ev_var rfl) (Evl.rv_eq rfl))) rfl) fun _ =>
            Evl.et_is (Evl.et_test (Evl.ev_op (Evl.ev_cb (Evl.ea_cons (Evl.ev_var rfl) (Evl.ea_cons Evl.ev_c Evl.ea_nil)) (rc_ins x1 T.iK T.kd)) (Evl.ev_var rfl) (Evl.rv_ne rfl))) rfl) (fun z => nomatch z) fun _ H12 e12 => ⟨_, _, _, _, _, _, rfl, (T11.ex e12).mono (by omega)⟩
        · rw [hcb]
          refine Evl.s_when (b := false) (Evl.et_or (a := false) (et_neStr (z := "stray") (fun H9 e9 Q' q' => ⟨.ref x, rfl, x, CY, dx, fs, .str "stray", rfl, e9 _ _ x1, T.iY.cl, TY.nW, x2, q' H9 (Evl.Ex.refl _)⟩) (Evl.ev_if (b := true) (Evl.et_B (Evl.ev_var rfl)) (fun _ => Evl.ev_c) fun z => nomatch z)) fun _ =>
            Evl.et_or (a := false) (Evl.et_is (Evl.et_test (Evl.ev_op (x := .bl false) (fun H9 e9 Q' q' => cb_go (cons_any ⟨.ref x, rfl, .inl ⟨x, dx, fs, rfl, e9 _ _ x1, x, rfl, false, rfl, q' H9 (Evl.Ex.refl _)⟩⟩)) (Evl.ev_var rfl) (Evl.rv_eq rfl))) rfl) fun _ =>
            Evl.et_is (Evl.et_test (Evl.ev_op (Evl.ev_cb (Evl.ea_cons (Evl.ev_var rfl) (Evl.ea_cons Evl.ev_c Evl.ea_nil)) (rc_ins x1 T.iY T.yd)) (Evl.ev_var rfl) (Evl.rv_ne rfl))) rfl) (fun z => nomatch z) fun _ H12 e12 => ⟨_, _, _, _, _, _, rfl, (T11.ex e12).mono (by omega)⟩
    · rintro σ' H' ⟨y2, y3, y4, y5, y6, y7, rfl, T1⟩
      exact ret_go ⟨.ref t, rfl, t, c0, 300, rfl, T1.mono (by decide), by omega, fun H2 => q H2⟩
end
end P51
end S_Of
section S_Og
namespace P51
open PySem PySem.Spec PyProof.Rows L2 Tl Hk EnL Go W50 W51
set_option maxHeartbeats 4000000 in
theorem all_mk {l : PySem.W.OpenLaw} {w : World} {K : PySem.W.Frag} {h : Heap} {mg : Str → Option Value} {fa fIn fWi fLi fRo fFx fWa fIw fPl fFi fRp fFb fLc fLr fLw fJu fSh fWl fSw fIs fSp fWd fPk fSt fDr fPc fLs fBe fLo fLa CS CB fBI CC fCI CW fWI CM fMI CP CD CK CY fPI fPB fDI fDB fKI fYI gD hD gK hK gY hY : Addr} (X : K.In h) (G : h.Ns mainGlobals mg) (hfa : mg "law" = some (.ref fa))
    {odIn anIn : Option Addr} {slIn : Array (Option Value)} {ocIn kVIn dcIn pmIn cdIn ctIn : Value}
    (aIn : PySem.W.nsIn K mainGlobals "is_integer" = some (some (.ref fIn)))
    (lIn : K.lookup fIn = some ⟨ocIn, odIn, .func (PySem.W.fnOf "is_integer" "is_integer" (defArgs sInteger) (defBody sInteger) (defScope sInteger) .none kVIn dcIn pmIn anIn cdIn ctIn), slIn⟩)
    (cIn : PySem.W.codeIn K cdIn "is_integer" = true)
    (kIn : PySem.W.keepIn K (.ref fIn) = true)
    {odWi anWi : Option Addr} {slWi : Array (Option Value)} {ocWi kVWi dcWi pmWi cdWi ctWi : Value}
    (aWi : PySem.W.nsIn K mainGlobals "is_within" = some (some (.ref fWi)))
    (lWi : K.lookup fWi = some ⟨ocWi, odWi, .func (PySem.W.fnOf "is_within" "is_within" (defArgs sWithin) (defBody sWithin) (defScope sWithin) .none kVWi dcWi pmWi anWi cdWi ctWi), slWi⟩)
    (cWi : PySem.W.codeIn K cdWi "is_within" = true)
    (kWi : PySem.W.keepIn K (.ref fWi) = true)
    {odLi anLi : Option Addr} {slLi : Array (Option Value)} {ocLi kVLi dcLi pmLi cdLi ctLi : Value}
    (aLi : PySem.W.nsIn K mainGlobals "is_list" = some (some (.ref fLi)))
    (lLi : K.lookup fLi = some ⟨ocLi, odLi, .func (PySem.W.fnOf "is_list" "is_list" (defArgs sList) (defBody sList) (defScope sList) .none kVLi dcLi pmLi anLi cdLi ctLi), slLi⟩)
    (cLi : PySem.W.codeIn K cdLi "is_list" = true)
    (kLi : PySem.W.keepIn K (.ref fLi) = true)
    {odRo anRo : Option Addr} {slRo : Array (Option Value)} {ocRo kVRo dcRo pmRo cdRo ctRo : Value}
    (aRo : PySem.W.nsIn K mainGlobals "is_row" = some (some (.ref fRo)))
    (lRo : K.lookup fRo = some ⟨ocRo, odRo, .func (PySem.W.fnOf "is_row" "is_row" (defArgs sRow) (defBody sRow) (defScope sRow) .none kVRo dcRo pmRo anRo cdRo ctRo), slRo⟩)
    (cRo : PySem.W.codeIn K cdRo "is_row" = true)
    (kRo : PySem.W.keepIn K (.ref fRo) = true)
    {odFx anFx : Option Addr} {slFx : Array (Option Value)} {ocFx kVFx dcFx pmFx cdFx ctFx : Value}
    (aFx : PySem.W.nsIn K mainGlobals "fixed" = some (some (.ref fFx)))
    (lFx : K.lookup fFx = some ⟨ocFx, odFx, .func (PySem.W.fnOf "fixed" "fixed" (defArgs sFixed) (defBody sFixed) (defScope sFixed) .none kVFx dcFx pmFx anFx cdFx ctFx), slFx⟩)
    (cFx : PySem.W.codeIn K cdFx "fixed" = true)
    (kFx : PySem.W.keepIn K (.ref fFx) = true)
    {odWa anWa : Option Addr} {slWa : Array (Option Value)} {ocWa kVWa dcWa pmWa cdWa ctWa : Value}
    (aWa : PySem.W.nsIn K mainGlobals "want_number" = some (some (.ref fWa)))
    (lWa : K.lookup fWa = some ⟨ocWa, odWa, .func (PySem.W.fnOf "want_number" "want_number" (defArgs sWant) (defBody sWant) (defScope sWant) .none kVWa dcWa pmWa anWa cdWa ctWa), slWa⟩)
    (cWa : PySem.W.codeIn K cdWa "want_number" = true)
    (kWa : PySem.W.keepIn K (.ref fWa) = true)
    {odIw anIw : Option Addr} {slIw : Array (Option Value)} {ocIw kVIw dcIw pmIw cdIw ctIw : Value}
    (aIw : PySem.W.nsIn K mainGlobals "is_word" = some (some (.ref fIw)))
    (lIw : K.lookup fIw = some ⟨ocIw, odIw, .func (PySem.W.fnOf "is_word" "is_word" (defArgs sIsWord) (defBody sIsWord) (defScope sIsWord) .none kVIw dcIw pmIw anIw cdIw ctIw), slIw⟩)
    (cIw : PySem.W.codeIn K cdIw "is_word" = true)
    (kIw : PySem.W.keepIn K (.ref fIw) = true)
    {odPl anPl : Option Addr} {slPl : Array (Option Value)} {ocPl kVPl dcPl pmPl cdPl ctPl : Value}
    (aPl : PySem.W.nsIn K mainGlobals "plain_word" = some (some (.ref fPl)))
    (lPl : K.lookup fPl = some ⟨ocPl, odPl, .func (PySem.W.fnOf "plain_word" "plain_word" (defArgs sPlain) (defBody sPlain) (defScope sPlain) .none kVPl dcPl pmPl anPl cdPl ctPl), slPl⟩)
    (cPl : PySem.W.codeIn K cdPl "plain_word" = true)
    (kPl : PySem.W.keepIn K (.ref fPl) = true)
    {odFi anFi : Option Addr} {slFi : Array (Option Value)} {ocFi kVFi dcFi pmFi cdFi ctFi : Value}
    (aFi : PySem.W.nsIn K mainGlobals "first_repeat" = some (some (.ref fFi)))
    (lFi : K.lookup fFi = some ⟨ocFi, odFi, .func (PySem.W.fnOf "first_repeat" "first_repeat" (defArgs sFirst) (defBody sFirst) (defScope sFirst) .none kVFi dcFi pmFi anFi cdFi ctFi), slFi⟩)
    (cFi : PySem.W.codeIn K cdFi "first_repeat" = true)
    (kFi : PySem.W.keepIn K (.ref fFi) = true)
    {odRp anRp : Option Addr} {slRp : Array (Option Value)} {ocRp kVRp dcRp pmRp cdRp ctRp : Value}
    (aRp : PySem.W.nsIn K mainGlobals "is_repeat" = some (some (.ref fRp)))
    (lRp : K.lookup fRp = some ⟨ocRp, odRp, .func (PySem.W.fnOf "is_repeat" "is_repeat" (defArgs sIsRep) (defBody sIsRep) (defScope sIsRep) .none kVRp dcRp pmRp anRp cdRp ctRp), slRp⟩)
    (cRp : PySem.W.codeIn K cdRp "is_repeat" = true)
    (kRp : PySem.W.keepIn K (.ref fRp) = true)
    {odFb anFb : Option Addr} {slFb : Array (Option Value)} {ocFb kVFb dcFb pmFb cdFb ctFb : Value}
    (aFb : PySem.W.nsIn K mainGlobals "_first_begin" = some (some (.ref fFb)))
    (lFb : K.lookup fFb = some ⟨ocFb, odFb, .func (PySem.W.fnOf "_first_begin" "_first_begin" (defArgs sBegin) (defBody sBegin) (defScope sBegin) .none kVFb dcFb pmFb anFb cdFb ctFb), slFb⟩)
    (cFb : PySem.W.codeIn K cdFb "_first_begin" = true)
    (kFb : PySem.W.keepIn K (.ref fFb) = true)
    {odLc anLc : Option Addr} {slLc : Array (Option Value)} {ocLc kVLc dcLc pmLc cdLc ctLc : Value}
    (aLc : PySem.W.nsIn K mainGlobals "line_colours" = some (some (.ref fLc)))
    (lLc : K.lookup fLc = some ⟨ocLc, odLc, .func (PySem.W.fnOf "line_colours" "line_colours" (defArgs sLineCol) (defBody sLineCol) (defScope sLineCol) .none kVLc dcLc pmLc anLc cdLc ctLc), slLc⟩)
    (cLc : PySem.W.codeIn K cdLc "line_colours" = true)
    (kLc : PySem.W.keepIn K (.ref fLc) = true)
    {odLr anLr : Option Addr} {slLr : Array (Option Value)} {ocLr kVLr dcLr pmLr cdLr ctLr : Value}
    (aLr : PySem.W.nsIn K mainGlobals "line_row" = some (some (.ref fLr)))
    (lLr : K.lookup fLr = some ⟨ocLr, odLr, .func (PySem.W.fnOf "line_row" "line_row" (defArgs sLineRow) (defBody sLineRow) (defScope sLineRow) .none kVLr dcLr pmLr anLr cdLr ctLr), slLr⟩)
    (cLr : PySem.W.codeIn K cdLr "line_row" = true)
    (kLr : PySem.W.keepIn K (.ref fLr) = true)
    {odLw anLw : Option Addr} {slLw : Array (Option Value)} {ocLw kVLw dcLw pmLw cdLw ctLw : Value}
    (aLw : PySem.W.nsIn K mainGlobals "is_line_walk" = some (some (.ref fLw)))
    (lLw : K.lookup fLw = some ⟨ocLw, odLw, .func (PySem.W.fnOf "is_line_walk" "is_line_walk" (defArgs sLineWalk) (defBody sLineWalk) (defScope sLineWalk) .none kVLw dcLw pmLw anLw cdLw ctLw), slLw⟩)
    (cLw : PySem.W.codeIn K cdLw "is_line_walk" = true)
    (kLw : PySem.W.keepIn K (.ref fLw) = true)
    {odJu anJu : Option Addr} {slJu : Array (Option Value)} {ocJu kVJu dcJu pmJu cdJu ctJu : Value}
    (aJu : PySem.W.nsIn K mainGlobals "judged_line" = some (some (.ref fJu)))
    (lJu : K.lookup fJu = some ⟨ocJu, odJu, .func (PySem.W.fnOf "judged_line" "judged_line" (defArgs sJudged) (defBody sJudged) (defScope sJudged) .none kVJu dcJu pmJu anJu cdJu ctJu), slJu⟩)
    (cJu : PySem.W.codeIn K cdJu "judged_line" = true)
    (kJu : PySem.W.keepIn K (.ref fJu) = true)
    {odSh anSh : Option Addr} {slSh : Array (Option Value)} {ocSh kVSh dcSh pmSh cdSh ctSh : Value}
    (aSh : PySem.W.nsIn K mainGlobals "shows_line" = some (some (.ref fSh)))
    (lSh : K.lookup fSh = some ⟨ocSh, odSh, .func (PySem.W.fnOf "shows_line" "shows_line" (defArgs sShows) (defBody sShows) (defScope sShows) .none kVSh dcSh pmSh anSh cdSh ctSh), slSh⟩)
    (cSh : PySem.W.codeIn K cdSh "shows_line" = true)
    (kSh : PySem.W.keepIn K (.ref fSh) = true)
    {odWl anWl : Option Addr} {slWl : Array (Option Value)} {ocWl kVWl dcWl pmWl cdWl ctWl : Value}
    (aWl : PySem.W.nsIn K mainGlobals "_want_line" = some (some (.ref fWl)))
    (lWl : K.lookup fWl = some ⟨ocWl, odWl, .func (PySem.W.fnOf "_want_line" "_want_line" (defArgs sWantLine) (defBody sWantLine) (defScope sWantLine) .none kVWl dcWl pmWl anWl cdWl ctWl), slWl⟩)
    (cWl : PySem.W.codeIn K cdWl "_want_line" = true)
    (kWl : PySem.W.keepIn K (.ref fWl) = true)
    {odSw anSw : Option Addr} {slSw : Array (Option Value)} {ocSw kVSw dcSw pmSw cdSw ctSw : Value}
    (aSw : PySem.W.nsIn K mainGlobals "_stray_walk" = some (some (.ref fSw)))
    (lSw : K.lookup fSw = some ⟨ocSw, odSw, .func (PySem.W.fnOf "_stray_walk" "_stray_walk" (defArgs sStrayWalk) (defBody sStrayWalk) (defScope sStrayWalk) .none kVSw dcSw pmSw anSw cdSw ctSw), slSw⟩)
    (cSw : PySem.W.codeIn K cdSw "_stray_walk" = true)
    (kSw : PySem.W.keepIn K (.ref fSw) = true)
    {odIs anIs : Option Addr} {slIs : Array (Option Value)} {ocIs kVIs dcIs pmIs cdIs ctIs : Value}
    (aIs : PySem.W.nsIn K mainGlobals "_is_stray" = some (some (.ref fIs)))
    (lIs : K.lookup fIs = some ⟨ocIs, odIs, .func (PySem.W.fnOf "_is_stray" "_is_stray" (defArgs sIsStray) (defBody sIsStray) (defScope sIsStray) .none kVIs dcIs pmIs anIs cdIs ctIs), slIs⟩)
    (cIs : PySem.W.codeIn K cdIs "_is_stray" = true)
    (kIs : PySem.W.keepIn K (.ref fIs) = true)
    {odSp anSp : Option Addr} {slSp : Array (Option Value)} {ocSp kVSp dcSp pmSp cdSp ctSp : Value}
    (aSp : PySem.W.nsIn K mainGlobals "_law_cord" = some (some (.ref fSp)))
    (lSp : K.lookup fSp = some ⟨ocSp, odSp, .func (PySem.W.fnOf "_law_cord" "_law_cord" (defArgs sTub) (defBody sTub) (defScope sTub) .none kVSp dcSp pmSp anSp cdSp ctSp), slSp⟩)
    (cSp : PySem.W.codeIn K cdSp "_law_cord" = true)
    (kSp : PySem.W.keepIn K (.ref fSp) = true)
    {odWd anWd : Option Addr} {slWd : Array (Option Value)} {ocWd kVWd dcWd pmWd cdWd ctWd : Value}
    (aWd : PySem.W.nsIn K mainGlobals "_law_ply" = some (some (.ref fWd)))
    (lWd : K.lookup fWd = some ⟨ocWd, odWd, .func (PySem.W.fnOf "_law_ply" "_law_ply" (defArgs sScoop) (defBody sScoop) (defScope sScoop) .none kVWd dcWd pmWd anWd cdWd ctWd), slWd⟩)
    (cWd : PySem.W.codeIn K cdWd "_law_ply" = true)
    (kWd : PySem.W.keepIn K (.ref fWd) = true)
    {odPk anPk : Option Addr} {slPk : Array (Option Value)} {ocPk kVPk dcPk pmPk cdPk ctPk : Value}
    (aPk : PySem.W.nsIn K mainGlobals "_law_pick" = some (some (.ref fPk)))
    (lPk : K.lookup fPk = some ⟨ocPk, odPk, .func (PySem.W.fnOf "_law_pick" "_law_pick" (defArgs sPick) (defBody sPick) (defScope sPick) .none kVPk dcPk pmPk anPk cdPk ctPk), slPk⟩)
    (cPk : PySem.W.codeIn K cdPk "_law_pick" = true)
    (kPk : PySem.W.keepIn K (.ref fPk) = true)
    {odSt anSt : Option Addr} {slSt : Array (Option Value)} {ocSt kVSt dcSt pmSt cdSt ctSt : Value}
    (aSt : PySem.W.nsIn K mainGlobals "_law_stray" = some (some (.ref fSt)))
    (lSt : K.lookup fSt = some ⟨ocSt, odSt, .func (PySem.W.fnOf "_law_stray" "_law_stray" (defArgs sLStray) (defBody sLStray) (defScope sLStray) .none kVSt dcSt pmSt anSt cdSt ctSt), slSt⟩)
    (cSt : PySem.W.codeIn K cdSt "_law_stray" = true)
    (kSt : PySem.W.keepIn K (.ref fSt) = true)
    {odDr anDr : Option Addr} {slDr : Array (Option Value)} {ocDr kVDr dcDr pmDr cdDr ctDr : Value}
    (aDr : PySem.W.nsIn K mainGlobals "_law_drawn" = some (some (.ref fDr)))
    (lDr : K.lookup fDr = some ⟨ocDr, odDr, .func (PySem.W.fnOf "_law_drawn" "_law_drawn" (defArgs sDrawn) (defBody sDrawn) (defScope sDrawn) .none kVDr dcDr pmDr anDr cdDr ctDr), slDr⟩)
    (cDr : PySem.W.codeIn K cdDr "_law_drawn" = true)
    (kDr : PySem.W.keepIn K (.ref fDr) = true)
    {odPc anPc : Option Addr} {slPc : Array (Option Value)} {ocPc kVPc dcPc pmPc cdPc ctPc : Value}
    (aPc : PySem.W.nsIn K mainGlobals "_law_plain_calm" = some (some (.ref fPc)))
    (lPc : K.lookup fPc = some ⟨ocPc, odPc, .func (PySem.W.fnOf "_law_plain_calm" "_law_plain_calm" (defArgs sPCalm) (defBody sPCalm) (defScope sPCalm) .none kVPc dcPc pmPc anPc cdPc ctPc), slPc⟩)
    (cPc : PySem.W.codeIn K cdPc "_law_plain_calm" = true)
    (kPc : PySem.W.keepIn K (.ref fPc) = true)
    {odLs anLs : Option Addr} {slLs : Array (Option Value)} {ocLs kVLs dcLs pmLs cdLs ctLs : Value}
    (aLs : PySem.W.nsIn K mainGlobals "_law_is_stray" = some (some (.ref fLs)))
    (lLs : K.lookup fLs = some ⟨ocLs, odLs, .func (PySem.W.fnOf "_law_is_stray" "_law_is_stray" (defArgs sLIsStray) (defBody sLIsStray) (defScope sLIsStray) .none kVLs dcLs pmLs anLs cdLs ctLs), slLs⟩)
    (cLs : PySem.W.codeIn K cdLs "_law_is_stray" = true)
    (kLs : PySem.W.keepIn K (.ref fLs) = true)
    {odBe anBe : Option Addr} {slBe : Array (Option Value)} {ocBe kVBe dcBe pmBe cdBe ctBe : Value}
    (aBe : PySem.W.nsIn K mainGlobals "_law_bent" = some (some (.ref fBe)))
    (lBe : K.lookup fBe = some ⟨ocBe, odBe, .func (PySem.W.fnOf "_law_bent" "_law_bent" (defArgs sBent) (defBody sBent) (defScope sBent) .none kVBe dcBe pmBe anBe cdBe ctBe), slBe⟩)
    (cBe : PySem.W.codeIn K cdBe "_law_bent" = true)
    (kBe : PySem.W.keepIn K (.ref fBe) = true)
    {odLo anLo : Option Addr} {slLo : Array (Option Value)} {ocLo kVLo dcLo pmLo cdLo ctLo : Value}
    (aLo : PySem.W.nsIn K mainGlobals "_law_long_right" = some (some (.ref fLo)))
    (lLo : K.lookup fLo = some ⟨ocLo, odLo, .func (PySem.W.fnOf "_law_long_right" "_law_long_right" (defArgs sLong) (defBody sLong) (defScope sLong) .none kVLo dcLo pmLo anLo cdLo ctLo), slLo⟩)
    (cLo : PySem.W.codeIn K cdLo "_law_long_right" = true)
    (kLo : PySem.W.keepIn K (.ref fLo) = true)
    {odLa anLa : Option Addr} {slLa : Array (Option Value)} {ocLa kVLa dcLa pmLa cdLa ctLa : Value}
    (aLa : PySem.W.nsIn K mainGlobals "law" = some (some (.ref fLa)))
    (lLa : K.lookup fLa = some ⟨ocLa, odLa, .func (PySem.W.fnOf "law" "law" (defArgs sLaw) (defBody sLaw) (defScope sLaw) .none kVLa dcLa pmLa anLa cdLa ctLa), slLa⟩)
    (cLa : PySem.W.codeIn K cdLa "law" = true)
    (kLa : PySem.W.keepIn K (.ref fLa) = true)
    (aCS : PySem.W.nsIn K mainGlobals "LaneError" = some (some (.ref CS)))
    (bCS : PySem.W.subIn K (.ref CS) (.type "BaseException") = some true)
    (dCS : PySem.W.hasDictIn K CS = true)
    (tCS : PySem.W.typeIn K (.ref CS) = some (.type "type"))
    {nmCB qCB : Str} {NCB : Addr} {bsCB : List Value} {bmCB : List Value} {snCB : List Str} {subCB : List Value} {abCB : Bool} {colCB : Option Bool} {ddCB : Option Addr} {m0CB m1CB m2CB m3CB m5CB : Option Value}
    (aCB : PySem.W.nsIn K mainGlobals "BadNumber" = some (some (.ref CB)))
    (xCB : K.lookup CB = some (excClassObj nmCB qCB CB NCB bsCB bmCB true snCB subCB abCB colCB ddCB m0CB m1CB m2CB m3CB m5CB "ValueError.__new__"))
    (vCB : PySem.HandSPX.refsVE bmCB = true)
    (saCB : PySem.W.findIn K (.ref CB) "__setattr__" = some (some (.builtin "object.__setattr__")))
    (gaCB : PySem.W.findIn K (.ref CB) "__getattribute__" = some (some (.builtin "BaseException.__getattribute__")))
    (ggCB : PySem.W.findIn K (.ref CB) "__getattr__" = some none)
    (noCB : PySem.W.findIn K (.ref CB) "part" = some none)
    (keCB : PySem.W.keepIn K (.ref CB) = true)
    (exCB : PySem.W.subIn K (.ref CB) (.type "BaseException") = some true)
    (tyCB : PySem.W.typeIn K (.ref CB) = some (.type "type"))
    (hdCB : PySem.W.hasDictIn K CB = true)
    (ciCB : PySem.W.isClsIn K CB = true)
    (haCB : PySem.W.findIn K (.ref CB) "__class__" = some (some (.builtin "object.__class__")))
    (hmCB : PySem.W.mroIn K CB (.type "object") = some true)
    (suCB : PySem.W.subIn K (.ref CB) (.ref CS) = some true)
    (kiCB : PySem.W.kitOne K (.ref CB) (.ref CB) = some true)
    {odfBI anfBI : Option Addr} {slfBI : Array (Option Value)} {ocfBI dcfBI pmfBI cdfBI ctfBI : Value}
    (afBI : PySem.W.findIn K (.ref CB) "__init__" = some (some (.ref fBI)))
    (tfBI : PySem.W.typeIn K (.ref fBI) = some (.type "function"))
    (lfBI : K.lookup fBI = some ⟨ocfBI, odfBI, .func (PySem.W.fnOf "__init__" "BadNumber.__init__" (defArgs (inClass sNumC 0)) (defBody (inClass sNumC 0)) (defScope (inClass sNumC 0)) .none .none dcfBI pmfBI anfBI cdfBI ctfBI), slfBI⟩)
    (cfBI : PySem.W.codeIn K cdfBI "BadNumber.__init__" = true)
    {nmCC qCC : Str} {NCC : Addr} {bsCC : List Value} {bmCC : List Value} {snCC : List Str} {subCC : List Value} {abCC : Bool} {colCC : Option Bool} {ddCC : Option Addr} {m0CC m1CC m2CC m3CC m5CC : Option Value}
    (aCC : PySem.W.nsIn K mainGlobals "BadColours" = some (some (.ref CC)))
    (xCC : K.lookup CC = some (excClassObj nmCC qCC CC NCC bsCC bmCC true snCC subCC abCC colCC ddCC m0CC m1CC m2CC m3CC m5CC "ValueError.__new__"))
    (vCC : PySem.HandSPX.refsVE bmCC = true)
    (saCC : PySem.W.findIn K (.ref CC) "__setattr__" = some (some (.builtin "object.__setattr__")))
    (gaCC : PySem.W.findIn K (.ref CC) "__getattribute__" = some (some (.builtin "BaseException.__getattribute__")))
    (ggCC : PySem.W.findIn K (.ref CC) "__getattr__" = some none)
    (noCC : PySem.W.findIn K (.ref CC) "part" = some none)
    (keCC : PySem.W.keepIn K (.ref CC) = true)
    (exCC : PySem.W.subIn K (.ref CC) (.type "BaseException") = some true)
    (tyCC : PySem.W.typeIn K (.ref CC) = some (.type "type"))
    (hdCC : PySem.W.hasDictIn K CC = true)
    (ciCC : PySem.W.isClsIn K CC = true)
    (haCC : PySem.W.findIn K (.ref CC) "__class__" = some (some (.builtin "object.__class__")))
    (hmCC : PySem.W.mroIn K CC (.type "object") = some true)
    (suCC : PySem.W.subIn K (.ref CC) (.ref CS) = some true)
    (kiCC : PySem.W.kitOne K (.ref CC) (.ref CC) = some true)
    {odfCI anfCI : Option Addr} {slfCI : Array (Option Value)} {ocfCI dcfCI pmfCI cdfCI ctfCI : Value}
    (afCI : PySem.W.findIn K (.ref CC) "__init__" = some (some (.ref fCI)))
    (tfCI : PySem.W.typeIn K (.ref fCI) = some (.type "function"))
    (lfCI : K.lookup fCI = some ⟨ocfCI, odfCI, .func (PySem.W.fnOf "__init__" "BadColours.__init__" (defArgs (inClass sColC 0)) (defBody (inClass sColC 0)) (defScope (inClass sColC 0)) .none .none dcfCI pmfCI anfCI cdfCI ctfCI), slfCI⟩)
    (cfCI : PySem.W.codeIn K cdfCI "BadColours.__init__" = true)
    {nmCW qCW : Str} {NCW : Addr} {bsCW : List Value} {bmCW : List Value} {snCW : List Str} {subCW : List Value} {abCW : Bool} {colCW : Option Bool} {ddCW : Option Addr} {m0CW m1CW m2CW m3CW m5CW : Option Value}
    (aCW : PySem.W.nsIn K mainGlobals "BadWord" = some (some (.ref CW)))
    (xCW : K.lookup CW = some (excClassObj nmCW qCW CW NCW bsCW bmCW true snCW subCW abCW colCW ddCW m0CW m1CW m2CW m3CW m5CW "ValueError.__new__"))
    (vCW : PySem.HandSPX.refsVE bmCW = true)
    (saCW : PySem.W.findIn K (.ref CW) "__setattr__" = some (some (.builtin "object.__setattr__")))
    (gaCW : PySem.W.findIn K (.ref CW) "__getattribute__" = some (some (.builtin "BaseException.__getattribute__")))
    (ggCW : PySem.W.findIn K (.ref CW) "__getattr__" = some none)
    (noCW : PySem.W.findIn K (.ref CW) "part" = some none)
    (keCW : PySem.W.keepIn K (.ref CW) = true)
    (exCW : PySem.W.subIn K (.ref CW) (.type "BaseException") = some true)
    (tyCW : PySem.W.typeIn K (.ref CW) = some (.type "type"))
    (hdCW : PySem.W.hasDictIn K CW = true)
    (ciCW : PySem.W.isClsIn K CW = true)
    (haCW : PySem.W.findIn K (.ref CW) "__class__" = some (some (.builtin "object.__class__")))
    (hmCW : PySem.W.mroIn K CW (.type "object") = some true)
    (suCW : PySem.W.subIn K (.ref CW) (.ref CS) = some true)
    (kiCW : PySem.W.kitOne K (.ref CW) (.ref CW) = some true)
    {odfWI anfWI : Option Addr} {slfWI : Array (Option Value)} {ocfWI dcfWI pmfWI cdfWI ctfWI : Value}
    (afWI : PySem.W.findIn K (.ref CW) "__init__" = some (some (.ref fWI)))
    (tfWI : PySem.W.typeIn K (.ref fWI) = some (.type "function"))
    (lfWI : K.lookup fWI = some ⟨ocfWI, odfWI, .func (PySem.W.fnOf "__init__" "BadWord.__init__" (defArgs (inClass sWordC 0)) (defBody (inClass sWordC 0)) (defScope (inClass sWordC 0)) .none .none dcfWI pmfWI anfWI cdfWI ctfWI), slfWI⟩)
    (cfWI : PySem.W.codeIn K cdfWI "BadWord.__init__" = true)
    (hn : PySem.W.specialIn K (.builtin "object.__class__") "__get__" = some (some (.builtin "getset_descriptor.__get__")))
    (ht : PySem.W.takesIn K (.builtin "object.__class__") = some true)
    {nmCM qCM : Str} {NCM : Addr} {bsCM : List Value} {bmCM : List Value} {snCM : List Str} {subCM : List Value} {abCM : Bool} {colCM : Option Bool} {ddCM : Option Addr} {m0CM m1CM m2CM m3CM m5CM : Option Value}
    (aCM : PySem.W.nsIn K mainGlobals "TooMany" = some (some (.ref CM)))
    (xCM : K.lookup CM = some (excClassObj nmCM qCM CM NCM bsCM bmCM true snCM subCM abCM colCM ddCM m0CM m1CM m2CM m3CM m5CM "ValueError.__new__"))
    (vCM : PySem.HandSPX.refsVE bmCM = true)
    (sa_CM : PySem.W.findIn K (.ref CM) "__setattr__" = some (some (.builtin "object.__setattr__")))
    (ga_CM : PySem.W.findIn K (.ref CM) "__getattribute__" = some (some (.builtin "BaseException.__getattribute__")))
    (gg_CM : PySem.W.findIn K (.ref CM) "__getattr__" = some none)
    (nw_CM : PySem.W.findIn K (.ref CM) "what" = some none)
    (nm_CM : PySem.W.findIn K (.ref CM) "most" = some none)
    (ke_CM : PySem.W.keepIn K (.ref CM) = true)
    (ex_CM : PySem.W.subIn K (.ref CM) (.type "BaseException") = some true)
    (ty_CM : PySem.W.typeIn K (.ref CM) = some (.type "type"))
    (hd_CM : PySem.W.hasDictIn K CM = true)
    (ci_CM : PySem.W.isClsIn K CM = true)
    (su_CM : PySem.W.subIn K (.ref CM) (.ref CS) = some true)
    {odfMI anfMI : Option Addr} {slfMI : Array (Option Value)} {ocfMI kVfMI dcfMI pmfMI cdfMI ctfMI : Value}
    (afMI : PySem.W.findIn K (.ref CM) "__init__" = some (some (.ref fMI)))
    (tfMI : PySem.W.typeIn K (.ref fMI) = some (.type "function"))
    (lfMI : K.lookup fMI = some ⟨ocfMI, odfMI, .func (PySem.W.fnOf "__init__" "TooMany.__init__" (defArgs sTooI) (defBody sTooI) (defScope sTooI) .none kVfMI dcfMI pmfMI anfMI cdfMI ctfMI), slfMI⟩)
    (cfMI : PySem.W.codeIn K cdfMI "TooMany.__init__" = true)
    (aCP : PySem.W.nsIn K mainGlobals "Paper" = some (some (.ref CP)))
    (pgCP : PySem.W.plainGet K CP Str.empty = true)
    (hdCP : PySem.W.hasDictIn K CP = true)
    (poCP : PySem.W.plainOver K CP = true)
    (saCP : PySem.W.findIn K (.ref CP) "__setattr__" = some (some (.builtin "object.__setattr__")))
    (mkCP : PySem.W.makesIn K CP = true)
    (kcCP : PySem.W.keepIn K (.ref CP) = true)
    (haCP : PySem.W.findIn K (.ref CP) "__class__" = some (some (.builtin "object.__class__")))
    (hmCP : PySem.W.mroIn K CP (.type "object") = some true)
    (nCP_word : PySem.W.findIn K (.ref CP) "word" = some none)
    (nCP_parts : PySem.W.findIn K (.ref CP) "parts" = some none)
    (aCD : PySem.W.nsIn K mainGlobals "Denial" = some (some (.ref CD)))
    (pgCD : PySem.W.plainGet K CD Str.empty = true)
    (hdCD : PySem.W.hasDictIn K CD = true)
    (poCD : PySem.W.plainOver K CD = true)
    (saCD : PySem.W.findIn K (.ref CD) "__setattr__" = some (some (.builtin "object.__setattr__")))
    (mkCD : PySem.W.makesIn K CD = true)
    (kcCD : PySem.W.keepIn K (.ref CD) = true)
    (haCD : PySem.W.findIn K (.ref CD) "__class__" = some (some (.builtin "object.__class__")))
    (hmCD : PySem.W.mroIn K CD (.type "object") = some true)
    (nCD_word : PySem.W.findIn K (.ref CD) "word" = some none)
    (nCD_parts : PySem.W.findIn K (.ref CD) "parts" = some none)
    (aCK : PySem.W.nsIn K mainGlobals "Calm" = some (some (.ref CK)))
    (pgCK : PySem.W.plainGet K CK Str.empty = true)
    (hdCK : PySem.W.hasDictIn K CK = true)
    (poCK : PySem.W.plainOver K CK = true)
    (saCK : PySem.W.findIn K (.ref CK) "__setattr__" = some (some (.builtin "object.__setattr__")))
    (mkCK : PySem.W.makesIn K CK = true)
    (kcCK : PySem.W.keepIn K (.ref CK) = true)
    (haCK : PySem.W.findIn K (.ref CK) "__class__" = some (some (.builtin "object.__class__")))
    (hmCK : PySem.W.mroIn K CK (.type "object") = some true)
    (nCK_word : PySem.W.findIn K (.ref CK) "word" = some none)
    (nCK_parts : PySem.W.findIn K (.ref CK) "parts" = some none)
    (aCY : PySem.W.nsIn K mainGlobals "Stray" = some (some (.ref CY)))
    (pgCY : PySem.W.plainGet K CY Str.empty = true)
    (hdCY : PySem.W.hasDictIn K CY = true)
    (poCY : PySem.W.plainOver K CY = true)
    (saCY : PySem.W.findIn K (.ref CY) "__setattr__" = some (some (.builtin "object.__setattr__")))
    (mkCY : PySem.W.makesIn K CY = true)
    (kcCY : PySem.W.keepIn K (.ref CY) = true)
    (haCY : PySem.W.findIn K (.ref CY) "__class__" = some (some (.builtin "object.__class__")))
    (hmCY : PySem.W.mroIn K CY (.type "object") = some true)
    (nCY_word : PySem.W.findIn K (.ref CY) "word" = some none)
    (nCY_parts : PySem.W.findIn K (.ref CY) "parts" = some none)
    (nCY_walk : PySem.W.findIn K (.ref CY) "walk" = some none)
    (aiCP : PySem.W.findIn K (.ref CP) "__init__" = some (some (.ref fPI)))
    (iiCP : PySem.W.isFn K (.ref fPI) = true)
    (aiCD : PySem.W.findIn K (.ref CD) "__init__" = some (some (.ref fDI)))
    (iiCD : PySem.W.isFn K (.ref fDI) = true)
    (aiCK : PySem.W.findIn K (.ref CK) "__init__" = some (some (.ref fKI)))
    (iiCK : PySem.W.isFn K (.ref fKI) = true)
    (aiCY : PySem.W.findIn K (.ref CY) "__init__" = some (some (.ref fYI)))
    (iiCY : PySem.W.isFn K (.ref fYI) = true)
    (abCY : PySem.W.findIn K (.ref CY) "__bool__" = some (some (.ref fDB)))
    (ibCY : PySem.W.isFn K (.ref fDB) = true)
    (abCK : PySem.W.findIn K (.ref CK) "__bool__" = some (some (.ref fPB)))
    (ibCK : PySem.W.isFn K (.ref fPB) = true)
    {odPI anPI : Option Addr} {slPI : Array (Option Value)} {ocPI kVPI dcPI pmPI cdPI ctPI : Value}
    (lPI : K.lookup fPI = some ⟨ocPI, odPI, .func (PySem.W.fnOf "__init__" "Paper.__init__" (defArgs sPaperI) (defBody sPaperI) (defScope sPaperI) .none kVPI dcPI pmPI anPI cdPI ctPI), slPI⟩)
    (cPI : PySem.W.codeIn K cdPI "Paper.__init__" = true)
    {odPB anPB : Option Addr} {slPB : Array (Option Value)} {ocPB kVPB dcPB pmPB cdPB ctPB : Value}
    (lPB : K.lookup fPB = some ⟨ocPB, odPB, .func (PySem.W.fnOf "__bool__" "Paper.__bool__" (defArgs sPaperB) (defBody sPaperB) (defScope sPaperB) .none kVPB dcPB pmPB anPB cdPB ctPB), slPB⟩)
    (cPB : PySem.W.codeIn K cdPB "Paper.__bool__" = true)
    {odDB anDB : Option Addr} {slDB : Array (Option Value)} {ocDB kVDB dcDB pmDB cdDB ctDB : Value}
    (lDB : K.lookup fDB = some ⟨ocDB, odDB, .func (PySem.W.fnOf "__bool__" "Denial.__bool__" (defArgs sDenialB) (defBody sDenialB) (defScope sDenialB) .none kVDB dcDB pmDB anDB cdDB ctDB), slDB⟩)
    (cDB : PySem.W.codeIn K cdDB "Denial.__bool__" = true)
    {odDI anDI : Option Addr} {slDI : Array (Option Value)} {ocDI kVDI dcDI pmDI ctDI : Value}
    (lDI : K.lookup fDI = some ⟨ocDI, odDI, .func (PySem.W.ksFn "__init__" "Denial.__init__" (defArgs sDenialI) (defBody sDenialI) (defScope sDenialI) .none kVDI dcDI pmDI anDI (.ref gD) ctDI hD), slDI⟩)
    (cDI : PySem.W.codeIn K (.ref gD) "Denial.__init__" = true)
    {u1DI : Value} {u2DI : Option Addr} {vsDI : Array Value} {u3DI : Array (Option Value)} {fileDI : Str} {tfDI : Tok} {u4DI : Value} {u5DI : Option Addr} {u6DI : Array (Option Value)} {cd_DI : _}
    (kvcDI : K.lookup gD = some ⟨u1DI, u2DI, .fields vsDI, u3DI⟩)
    (kvsDI : vsDI[2]? = some (.str fileDI tfDI))
    (kvfDI : ((l.prog.main.file : Str) == fileDI) = true)
    (kveDI : K.lookup hD = some ⟨u4DI, u5DI, .cell (some (.ref CD)), u6DI⟩)
    (kvdDI : PySem.W.clsIn K CD = some cd_DI)
    {odKI anKI : Option Addr} {slKI : Array (Option Value)} {ocKI kVKI dcKI pmKI ctKI : Value}
    (lKI : K.lookup fKI = some ⟨ocKI, odKI, .func (PySem.W.ksFn "__init__" "Calm.__init__" (defArgs sCalmI) (defBody sCalmI) (defScope sCalmI) .none kVKI dcKI pmKI anKI (.ref gK) ctKI hK), slKI⟩)
    (cKI : PySem.W.codeIn K (.ref gK) "Calm.__init__" = true)
    {u1KI : Value} {u2KI : Option Addr} {vsKI : Array Value} {u3KI : Array (Option Value)} {fileKI : Str} {tfKI : Tok} {u4KI : Value} {u5KI : Option Addr} {u6KI : Array (Option Value)} {cd_KI : _}
    (kvcKI : K.lookup gK = some ⟨u1KI, u2KI, .fields vsKI, u3KI⟩)
    (kvsKI : vsKI[2]? = some (.str fileKI tfKI))
    (kvfKI : ((l.prog.main.file : Str) == fileKI) = true)
    (kveKI : K.lookup hK = some ⟨u4KI, u5KI, .cell (some (.ref CK)), u6KI⟩)
    (kvdKI : PySem.W.clsIn K CK = some cd_KI)
    {odYI anYI : Option Addr} {slYI : Array (Option Value)} {ocYI kVYI dcYI pmYI ctYI : Value}
    (lYI : K.lookup fYI = some ⟨ocYI, odYI, .func (PySem.W.ksFn "__init__" "Stray.__init__" (defArgs sStrayI) (defBody sStrayI) (defScope sStrayI) .none kVYI dcYI pmYI anYI (.ref gY) ctYI hY), slYI⟩)
    (cYI : PySem.W.codeIn K (.ref gY) "Stray.__init__" = true)
    {u1YI : Value} {u2YI : Option Addr} {vsYI : Array Value} {u3YI : Array (Option Value)} {fileYI : Str} {tfYI : Tok} {u4YI : Value} {u5YI : Option Addr} {u6YI : Array (Option Value)} {cd_YI : _}
    (kvcYI : K.lookup gY = some ⟨u1YI, u2YI, .fields vsYI, u3YI⟩)
    (kvsYI : vsYI[2]? = some (.str fileYI tfYI))
    (kvfYI : ((l.prog.main.file : Str) == fileYI) = true)
    (kveYI : K.lookup hY = some ⟨u4YI, u5YI, .cell (some (.ref CY)), u6YI⟩)
    (kvdYI : PySem.W.clsIn K CY = some cd_YI)
    (kvo : PySem.W.nsIn K cStatics "thirdparty.any" = some none)
    (kvp : (l.prog.main.scope.names.lookup ("super" : Str)).isSome = false)
    (kvmKK : PySem.W.mroIn K CK (.ref CK) = some true)
    (kvaKK : PySem.W.ks_superIn K CK CK "__init__" = some (some (.ref fPI)))
    (kvmYY : PySem.W.mroIn K CY (.ref CY) = some true)
    (kvaYY : PySem.W.ks_superIn K CY CY "__init__" = some (some (.ref fDI)))
    (kvmYD : PySem.W.mroIn K CY (.ref CD) = some true)
    (kvaYD : PySem.W.ks_superIn K CY CD "__init__" = some (some (.ref fPI)))
    (kvmDD : PySem.W.mroIn K CD (.ref CD) = some true)
    (kvaDD : PySem.W.ks_superIn K CD CD "__init__" = some (some (.ref fPI)))
    (kvtfPI : PySem.W.typeIn K (.ref fPI) = some (.type "function"))
    (kvifPI : PySem.W.fnIn K fPI = true)
    (kvtfDI : PySem.W.typeIn K (.ref fDI) = some (.type "function"))
    (kvifDI : PySem.W.fnIn K fDI = true)
    (qyy : PySem.W.kitOne K (.ref CY) (.ref CY) = some true)
    (qyk : PySem.W.kitOne K (.ref CY) (.ref CK) = some false)
    (qyd : PySem.W.kitOne K (.ref CY) (.ref CD) = some true)
    (qky : PySem.W.kitOne K (.ref CK) (.ref CY) = some false)
    (qkk : PySem.W.kitOne K (.ref CK) (.ref CK) = some true)
    (qkd : PySem.W.kitOne K (.ref CK) (.ref CD) = some false)
    (qpy : PySem.W.kitOne K (.ref CP) (.ref CY) = some false)
    (qpk : PySem.W.kitOne K (.ref CP) (.ref CK) = some false)
    (qdy : PySem.W.kitOne K (.ref CD) (.ref CY) = some false)
    (qdk : PySem.W.kitOne K (.ref CD) (.ref CK) = some false)
    (qyNoneType : PySem.W.kitOne K (.type "NoneType") (.ref CY) = some false)
    (qkNoneType : PySem.W.kitOne K (.type "NoneType") (.ref CK) = some false)
    (qybool : PySem.W.kitOne K (.type "bool") (.ref CY) = some false)
    (qkbool : PySem.W.kitOne K (.type "bool") (.ref CK) = some false)
    (qyint : PySem.W.kitOne K (.type "int") (.ref CY) = some false)
    (qkint : PySem.W.kitOne K (.type "int") (.ref CK) = some false)
    (qystr : PySem.W.kitOne K (.type "str") (.ref CY) = some false)
    (qkstr : PySem.W.kitOne K (.type "str") (.ref CK) = some false)
    (qylist : PySem.W.kitOne K (.type "list") (.ref CY) = some false)
    (qklist : PySem.W.kitOne K (.type "list") (.ref CK) = some false)
    (qytuple : PySem.W.kitOne K (.type "tuple") (.ref CY) = some false)
    (qktuple : PySem.W.kitOne K (.type "tuple") (.ref CK) = some false)
    (qydict : PySem.W.kitOne K (.type "dict") (.ref CY) = some false)
    (qkdict : PySem.W.kitOne K (.type "dict") (.ref CK) = some false)
    {tM1 tM2 tM3 tM4 : Tok}
    (zM1 : PySem.W.nsIn K mainGlobals "MOST_SIGNS" = some (some (.int 2000 tM1)))
    (zM2 : PySem.W.nsIn K mainGlobals "MOST_PLACES" = some (some (.int 2000 tM2)))
    (zM3 : PySem.W.nsIn K mainGlobals "MOST_TO_JUDGE" = some (some (.int 400 tM3)))
    (zM4 : PySem.W.nsIn K mainGlobals "FURTHER_SIGN" = some (some (.int 3 tM4)))
    (z_int : PySem.W.nsIn K mainGlobals "int" = some none)
    (z_bool : PySem.W.nsIn K mainGlobals "bool" = some none)
    (z_list : PySem.W.nsIn K mainGlobals "list" = some none)
    (z_tuple : PySem.W.nsIn K mainGlobals "tuple" = some none)
    (z_isinstance : PySem.W.nsIn K mainGlobals "isinstance" = some none)
    (z_all : PySem.W.nsIn K mainGlobals "all" = some none)
    (z_len : PySem.W.nsIn K mainGlobals "len" = some none)
    (z_abs : PySem.W.nsIn K mainGlobals "abs" = some none)
    (z_range : PySem.W.nsIn K mainGlobals "range" = some none)
    (z_repr : PySem.W.nsIn K mainGlobals "repr" = some none)
    (z_min : PySem.W.nsIn K mainGlobals "min" = some none)
    (z_max : PySem.W.nsIn K mainGlobals "max" = some none)
    (z_zip : PySem.W.nsIn K mainGlobals "zip" = some none)
    (z_super : PySem.W.nsIn K mainGlobals "super" = some none)
    (z_divmod : PySem.W.nsIn K mainGlobals "divmod" = some none)
    : ∃ fd : FuncData, (∀ (s : Shared) (v : Value), BindsTo s fd ⟨[v], []⟩ [("script", v)]) ∧ ∀ base : Heap, K.In base → base.Ns mainGlobals mg → FnG l.prog w K mg base 11 fa fd ["script"] (spLaw K) := by
  have e := hfa.symm.trans (PySem.W.mg_of X G aLa)
  cases e
  have FIn := fun_mk (st := sInteger) lIn cIn kIn
  have bIn := FIn.binds (ps := ["value"]) fun _ _ _ _ _ _ us hl => match us, hl with | [_], _ => rfl
  have FWi := fun_mk (st := sWithin) lWi cWi kWi
  have bWi := FWi.binds (ps := ["value", "least", "most"]) fun _ _ _ _ _ _ us hl => match us, hl with | [_, _, _], _ => rfl
  have FLi := fun_mk (st := sList) lLi cLi kLi
  have bLi := FLi.binds (ps := ["value"]) fun _ _ _ _ _ _ us hl => match us, hl with | [_], _ => rfl
  have FRo := fun_mk (st := sRow) lRo cRo kRo
  have bRo := FRo.binds (ps := ["value", "least", "most"]) fun _ _ _ _ _ _ us hl => match us, hl with | [_, _, _], _ => rfl
  have FFx := fun_mk (st := sFixed) lFx cFx kFx
  have bFx := FFx.binds (ps := ["value"]) fun _ _ _ _ _ _ us hl => match us, hl with | [_], _ => rfl
  have FWa := fun_mk (st := sWant) lWa cWa kWa
  have bWa := FWa.binds (ps := ["value", "least", "most", "part"]) fun _ _ _ _ _ _ us hl => match us, hl with | [_, _, _, _], _ => rfl
  have FIw := fun_mk (st := sIsWord) lIw cIw kIw
  have bIw := FIw.binds (ps := ["value"]) fun _ _ _ _ _ _ us hl => match us, hl with | [_], _ => rfl
  have FPl := fun_mk (st := sPlain) lPl cPl kPl
  have bPl := FPl.binds (ps := ["many"]) fun _ _ _ _ _ _ us hl => match us, hl with | [_], _ => rfl
  have FFi := fun_mk (st := sFirst) lFi cFi kFi
  have bFi := FFi.binds (ps := ["word"]) fun _ _ _ _ _ _ us hl => match us, hl with | [_], _ => rfl
  have FRp := fun_mk (st := sIsRep) lRp cRp kRp
  have bRp := FRp.binds (ps := ["row"]) fun _ _ _ _ _ _ us hl => match us, hl with | [_], _ => rfl
  have FFb := fun_mk (st := sBegin) lFb cFb kFb
  have bFb := FFb.binds (ps := ["word", "half"]) fun _ _ _ _ _ _ us hl => match us, hl with | [_, _], _ => rfl
  have FLc := fun_mk (st := sLineCol) lLc cLc kLc
  have bLc := FLc.binds (ps := ["many"]) fun _ _ _ _ _ _ us hl => match us, hl with | [_], _ => rfl
  have FLr := fun_mk (st := sLineRow) lLr cLr kLr
  have bLr := FLr.binds (ps := ["many"]) fun _ _ _ _ _ _ us hl => match us, hl with | [_], _ => rfl
  have FLw := fun_mk (st := sLineWalk) lLw cLw kLw
  have bLw := FLw.binds (ps := ["value", "many"]) fun _ _ _ _ _ _ us hl => match us, hl with | [_, _], _ => rfl
  have FJu := fun_mk (st := sJudged) lJu cJu kJu
  have bJu := FJu.binds (ps := ["colours"]) fun _ _ _ _ _ _ us hl => match us, hl with | [_], _ => rfl
  have FSh := fun_mk (st := sShows) lSh cSh kSh
  have bSh := FSh.binds (ps := ["colours", "value"]) fun _ _ _ _ _ _ us hl => match us, hl with | [_, _], _ => rfl
  have FWl := fun_mk (st := sWantLine) lWl cWl kWl
  have bWl := FWl.binds (ps := ["colours"]) fun _ _ _ _ _ _ us hl => match us, hl with | [_], _ => rfl
  have FSw := fun_mk (st := sStrayWalk) lSw cSw kSw
  have bSw := FSw.binds (ps := ["colours"]) fun _ _ _ _ _ _ us hl => match us, hl with | [_], _ => rfl
  have FIs := fun_mk (st := sIsStray) lIs cIs kIs
  have bIs := FIs.binds (ps := ["colours", "value"]) fun _ _ _ _ _ _ us hl => match us, hl with | [_, _], _ => rfl
  have FSp := fun_mk (st := sTub) lSp cSp kSp
  have bSp := FSp.binds (ps := ["script"]) fun _ _ _ _ _ _ us hl => match us, hl with | [_], _ => rfl
  have FWd := fun_mk (st := sScoop) lWd cWd kWd
  have bWd := FWd.binds (ps := ["cord", "many"]) fun _ _ _ _ _ _ us hl => match us, hl with | [_, _], _ => rfl
  have FPk := fun_mk (st := sPick) lPk cPk kPk
  have bPk := FPk.binds (ps := ["cord", "some"]) fun _ _ _ _ _ _ us hl => match us, hl with | [_, _], _ => rfl
  have FSt := fun_mk (st := sLStray) lSt cSt kSt
  have bSt := FSt.binds (ps := ["colours"]) fun _ _ _ _ _ _ us hl => match us, hl with | [_], _ => rfl
  have FDr := fun_mk (st := sDrawn) lDr cDr kDr
  have bDr := FDr.binds (ps := ["cord"]) fun _ _ _ _ _ _ us hl => match us, hl with | [_], _ => rfl
  have FPc := fun_mk (st := sPCalm) lPc cPc kPc
  have bPc := FPc.binds (ps := ["colours"]) fun _ _ _ _ _ _ us hl => match us, hl with | [_], _ => rfl
  have FLs := fun_mk (st := sLIsStray) lLs cLs kLs
  have bLs := FLs.binds (ps := ["colours", "walk"]) fun _ _ _ _ _ _ us hl => match us, hl with | [_, _], _ => rfl
  have FBe := fun_mk (st := sBent) lBe cBe kBe
  have bBe := FBe.binds (ps := ["cord", "colours", "told"]) fun _ _ _ _ _ _ us hl => match us, hl with | [_, _, _], _ => rfl
  have FLo := fun_mk (st := sLong) lLo cLo kLo
  have bLo := FLo.binds (ps := ["cord"]) fun _ _ _ _ _ _ us hl => match us, hl with | [_], _ => rfl
  have FLa := fun_mk (st := sLaw) lLa cLa kLa
  have bLa := FLa.binds (ps := ["script"]) fun _ _ _ _ _ _ us hl => match us, hl with | [_], _ => rfl
  have n : ∀ {x : Str}, PySem.W.nsIn K mainGlobals x = some none → mg x = none := fun h => PySem.W.mg_none_of X G h
  have g : ∀ {x : Str} {v : Value}, PySem.W.nsIn K mainGlobals x = some (some v) → mg x = some v := fun h => PySem.W.mg_of X G h
  have ECB : ErrC K CB := ⟨gaCB, ggCB, exCB, hdCB, ciCB, haCB, hn, ht, hmCB⟩
  have PCB : PySem.PartX.PartTxt K mg "BadNumber" "BadNumber.__init__" CB fBI := { gC := g aCB, cls := ⟨_, _, _, _, _, _, _, _, _, _, _, _, _, _, _, xCB, vCB⟩, sa := saCB, ga := gaCB, gg := ggCB, noN := noCB, iC := afBI, tC := tfBI, kC := keCB, exC := exCB, tyC := tyCB, hdC := hdCB, fn := ⟨_, _, _, _, _, _, _, _, _, _, _, _, _, _, lfBI, cfBI⟩ }
  have ECC : ErrC K CC := ⟨gaCC, ggCC, exCC, hdCC, ciCC, haCC, hn, ht, hmCC⟩
  have PCC : PySem.PartX.PartTxt K mg "BadColours" "BadColours.__init__" CC fCI := { gC := g aCC, cls := ⟨_, _, _, _, _, _, _, _, _, _, _, _, _, _, _, xCC, vCC⟩, sa := saCC, ga := gaCC, gg := ggCC, noN := noCC, iC := afCI, tC := tfCI, kC := keCC, exC := exCC, tyC := tyCC, hdC := hdCC, fn := ⟨_, _, _, _, _, _, _, _, _, _, _, _, _, _, lfCI, cfCI⟩ }
  have ECW : ErrC K CW := ⟨gaCW, ggCW, exCW, hdCW, ciCW, haCW, hn, ht, hmCW⟩
  have PCW : PySem.PartX.PartTxt K mg "BadWord" "BadWord.__init__" CW fWI := { gC := g aCW, cls := ⟨_, _, _, _, _, _, _, _, _, _, _, _, _, _, _, xCW, vCW⟩, sa := saCW, ga := gaCW, gg := ggCW, noN := noCW, iC := afWI, tC := tfWI, kC := keCW, exC := exCW, tyC := tyCW, hdC := hdCW, fn := ⟨_, _, _, _, _, _, _, _, _, _, _, _, _, _, lfWI, cfWI⟩ }
  have kSh := kbn_of FSh (ps := ["colours", "value"]) 0 ["colours", "value"] (fun us ws => just1 us ws) (fun _ r => r) fun _ _ _ _ _ _ us ws h1 h2 => match us, ws, h1, h2 with | [], [_, _], _, _ => rfl
  have bPB : Binds K (PySem.W.fnOf "__bool__" "Paper.__bool__" (defArgs sPaperB) (defBody sPaperB) (defScope sPaperB) .none kVPB dcPB pmPB anPB cdPB ctPB) ["self"] [] := fun s us _ hl => .of_eq (match us, hl with | [_], _ => rfl)
  have bDB : Binds K (PySem.W.fnOf "__bool__" "Denial.__bool__" (defArgs sDenialB) (defBody sDenialB) (defScope sDenialB) .none kVDB dcDB pmDB anDB cdDB ctDB) ["self"] [] := fun s us _ hl => .of_eq (match us, hl with | [_], _ => rfl)
  have bTI : Binds K (PySem.W.fnOf "__init__" "TooMany.__init__" (defArgs sTooI) (defBody sTooI) (defScope sTooI) .none kVfMI dcfMI pmfMI anfMI cdfMI ctfMI) ["self", "what", "most"] [] := fun s us _ hl => .of_eq (match us, hl with | [_, _, _], _ => rfl)
  have bKI : Binds K (PySem.W.ksFn "__init__" "Calm.__init__" (defArgs sCalmI) (defBody sCalmI) (defScope sCalmI) .none kVKI dcKI pmKI anKI (.ref gK) ctKI hK) ["self"] [] := fun s us _ hl => .of_eq (match us, hl with | [_], _ => rfl)
  have bYI : Binds K (PySem.W.ksFn "__init__" "Stray.__init__" (defArgs sStrayI) (defBody sStrayI) (defScope sStrayI) .none kVYI dcYI pmYI anYI (.ref gY) ctYI hY) ["self", "walk"] [] := fun s us _ hl => .of_eq (match us, hl with | [_, _], _ => rfl)
  have OM : OexC K CM := ⟨⟨_, _, _, _, _, _, _, _, _, _, _, _, _, _, _, xCM, vCM⟩, sa_CM, ex_CM, ty_CM, ke_CM⟩
  have clP : Cls K CP := ⟨pgCP, hdCP, poCP, saCP⟩
  have TP : TPap K CP := ⟨clP, nCP_word, nCP_parts⟩
  have IP : TInsC K CP := ⟨clP, haCP, hn, ht, hmCP⟩
  have clD : Cls K CD := ⟨pgCD, hdCD, poCD, saCD⟩
  have TD : TPap K CD := ⟨clD, nCD_word, nCD_parts⟩
  have ID : TInsC K CD := ⟨clD, haCD, hn, ht, hmCD⟩
  have clK : Cls K CK := ⟨pgCK, hdCK, poCK, saCK⟩
  have TK : TPap K CK := ⟨clK, nCK_word, nCK_parts⟩
  have IK : TInsC K CK := ⟨clK, haCK, hn, ht, hmCK⟩
  have clY : Cls K CY := ⟨pgCY, hdCY, poCY, saCY⟩
  have TY : TPap K CY := ⟨clY, nCY_word, nCY_parts⟩
  have IY : TInsC K CY := ⟨clY, haCY, hn, ht, hmCY⟩
  have MP : Mk K CP fPI := ⟨mkCP, aiCP, iiCP, kcCP⟩
  have MD : Mk K CD fDI := ⟨mkCD, aiCD, iiCD, kcCD⟩
  have MK : Mk K CK fKI := ⟨mkCK, aiCK, iiCK, kcCK⟩
  have MY : Mk K CY fYI := ⟨mkCY, aiCY, iiCY, kcCY⟩
  have KT : Kits K CY CK CP CD := ⟨IY, IK, IP, ID, qyy, qyk, qyd, qky, qkk, qkd, qpy, qpk, qdy, qdk, fun n hn => by
    simp only [tys, List.mem_cons, List.not_mem_nil, or_false] at hn
    rcases hn with rfl | rfl | rfl | rfl | rfl | rfl | rfl
    · exact qyNoneType
    · exact qybool
    · exact qyint
    · exact qystr
    · exact qylist
    · exact qytuple
    · exact qydict, fun n hn => by
    simp only [tys, List.mem_cons, List.not_mem_nil, or_false] at hn
    rcases hn with rfl | rfl | rfl | rfl | rfl | rfl | rfl
    · exact qkNoneType
    · exact qkbool
    · exact qkint
    · exact qkstr
    · exact qklist
    · exact qktuple
    · exact qkdict⟩
  have BK : SuFacts l.prog K fKI fPI CK CK hK gK (PySem.W.ksFn "__init__" "Calm.__init__" (defArgs sCalmI) (defBody sCalmI) (defScope sCalmI) .none kVKI dcKI pmKI anKI (.ref gK) ctKI hK) "self" :=
    ⟨⟨_, _, _, lKI⟩, ⟨_, rfl, rfl⟩, ⟨_, _, _, _, _, _, kvcKI, kvsKI, kvfKI⟩, ⟨_, _, _, kveKI⟩, ⟨_, kvdKI⟩, kvmKK, kvo, kvaKK, kvtfPI, kvifPI, kvp, fun z => by rw [kvdKI] at z; cases z⟩
  have BY : SuFacts l.prog K fYI fDI CY CY hY gY (PySem.W.ksFn "__init__" "Stray.__init__" (defArgs sStrayI) (defBody sStrayI) (defScope sStrayI) .none kVYI dcYI pmYI anYI (.ref gY) ctYI hY) "self" :=
    ⟨⟨_, _, _, lYI⟩, ⟨_, rfl, rfl⟩, ⟨_, _, _, _, _, _, kvcYI, kvsYI, kvfYI⟩, ⟨_, _, _, kveYI⟩, ⟨_, kvdYI⟩, kvmYY, kvo, kvaYY, kvtfDI, kvifDI, kvp, fun z => by rw [kvdYI] at z; cases z⟩
  have BYD : SuFacts l.prog K fDI fPI CD CY hD gD (PySem.W.ksFn "__init__" "Denial.__init__" (defArgs sDenialI) (defBody sDenialI) (defScope sDenialI) .none kVDI dcDI pmDI anDI (.ref gD) ctDI hD) "self" :=
    ⟨⟨_, _, _, lDI⟩, ⟨_, rfl, rfl⟩, ⟨_, _, _, _, _, _, kvcDI, kvsDI, kvfDI⟩, ⟨_, _, _, kveDI⟩, ⟨_, kvdDI⟩, kvmYD, kvo, kvaYD, kvtfPI, kvifPI, kvp, fun z => by rw [kvdYI] at z; cases z⟩
  have BDD : SuFacts l.prog K fDI fPI CD CD hD gD (PySem.W.ksFn "__init__" "Denial.__init__" (defArgs sDenialI) (defBody sDenialI) (defScope sDenialI) .none kVDI dcDI pmDI anDI (.ref gD) ctDI hD) "self" :=
    ⟨⟨_, _, _, lDI⟩, ⟨_, rfl, rfl⟩, ⟨_, _, _, _, _, _, kvcDI, kvsDI, kvfDI⟩, ⟨_, _, _, kveDI⟩, ⟨_, kvdDI⟩, kvmDD, kvo, kvaDD, kvtfPI, kvifPI, kvp, fun z => by rw [kvdDI] at z; cases z⟩
  refine ⟨PySem.W.fnOf "law" "law" (defArgs sLaw) (defBody sLaw) (defScope sLaw) .none kVLa dcLa pmLa anLa cdLa ctLa, fun s v => .of_eq rfl, fun base _ _ => ?_⟩
  have GIn := ok_integer (P := l.prog) (w := w) (mg := mg) (base := base) (k := 0) FIn (n z_isinstance) (n z_int) (n z_bool)
  have GWi := ok_within (P := l.prog) (w := w) (mg := mg) (base := base) (k := 1) FWi FIn GIn bIn (g aIn)
  have GLi := ok_list (P := l.prog) (w := w) (mg := mg) (base := base) (k := 0) FLi (n z_isinstance) (n z_list) (n z_tuple)
  have GRo := ok_row (P := l.prog) (w := w) (mg := mg) (base := base) (k := 2) FRo FWi GWi bWi (g aWi) FLi (GLi.mono (by decide)) bLi (g aLi) (n z_all)
  have GIw := ok_isWord (P := l.prog) (w := w) (mg := mg) (base := base) (k := 3) FIw FRo GRo bRo (g aRo)
  have GWa := ok_want (P := l.prog) (w := w) (mg := mg) (base := base) (k := 0) FWa FWi GWi bWi (g aWi) PCB
  have GPl := ok_plain (P := l.prog) (w := w) (mg := mg) (base := base) (k := 3) FPl FWa GWa bWa (g aWa) (g zM1) (n z_len) (n z_tuple)
  have GLr := ok_lineRow (P := l.prog) (w := w) (mg := mg) (base := base) (k := 4) FLr FPl GPl bPl (g aPl) (g zM4) (n z_range) (n z_tuple)
  have GLc := ok_lineCol (P := l.prog) (w := w) (mg := mg) (base := base) (k := 5) FLc FWa (GWa.mono (by decide)) bWa (g aWa) FLr GLr bLr (g aLr) (g zM2)
  have GFb := ok_begin (P := l.prog) (w := w) (mg := mg) (base := base) (k := 3) FFb (n z_len) (n z_range)
  have GFi := ok_first (P := l.prog) (w := w) (mg := mg) (base := base) (k := 2) FFi FIw GIw bIw (g aIw) FFb GFb bFb (g aFb) PCW (n z_len) (n z_range) (n z_min)
  have GTI := ok_tooI (P := l.prog) (w := w) (mg := mg) (base := base) (k := 2) OM nw_CM nm_CM lfMI cfMI
  have GWl := ok_wantLine (P := l.prog) (w := w) (mg := mg) (base := base) (k := 2) FWl FIw GIw bIw (g aIw) PCC OM afMI tfMI GTI bTI (g aCM) (g zM3) (n z_len)
  have GSw := ok_strayWalk (P := l.prog) (w := w) (mg := mg) (base := base) (k := 5) FSw FFi GFi bFi (g aFi) (n z_len) (n z_range) (n z_list)
  have GLw := ok_lineWalk (P := l.prog) (w := w) (mg := mg) (base := base) (k := 3) FLw FWa GWa bWa (g aWa) FRo GRo bRo (g aRo) (n z_len) (n z_all) (n z_abs) (n z_zip)
  have GRp := ok_isRep (P := l.prog) (w := w) (mg := mg) (base := base) (k := 3) FRp (n z_len) (n z_divmod)
  have GIs := ok_isStray (P := l.prog) (w := w) (mg := mg) (base := base) (k := 4) FIs FLw GLw bLw (g aLw) FRp GRp bRp (g aRp) (n z_len)
  have GFx := ok_fix (P := l.prog) (w := w) (mg := mg) (base := base) (k := 1) FFx (g aFx) bFx FLi (GLi.mono (by decide)) bLi (g aLi) (n z_tuple) 2
  have GPK := ok_paperI (P := l.prog) (w := w) (mg := mg) (base := base) (k := 4) (C := CK) lPI cPI FFx GFx bFx (g aFx)
  have GPY := ok_paperI (P := l.prog) (w := w) (mg := mg) (base := base) (k := 4) (C := CY) lPI cPI FFx GFx bFx (g aFx)
  have GPD := ok_paperI (P := l.prog) (w := w) (mg := mg) (base := base) (k := 6) (C := CD) lPI cPI FFx (GFx.mono (by decide)) bFx (g aFx)
  have GPP := ok_paperI (P := l.prog) (w := w) (mg := mg) (base := base) (k := 7) (C := CP) lPI cPI FFx (GFx.mono (by decide)) bFx (g aFx)
  have GDY := ok_denialI (n := 2) BYD cDI (n z_super) GPY
  have GDD := ok_denialI (n := 2) BDD cDI (n z_super) GPD
  have GKI := ok_calmI (n := 1) BK cKI (n z_super) TK GPK
  have GYI := ok_strayI (n := 1) BY cYI (n z_super) TY nCY_walk GDY
  have GSh := ok_shows (P := l.prog) (w := w) (mg := mg) (base := base) (k := 7) (CP := CP) (CD := CD) FSh FWl (GWl.mono (by decide)) bWl (g aWl) FSw (GSw.mono (by decide)) bSw (g aSw) FIs (GIs.mono (by decide)) bIs (g aIs) (g aCY) (g aCK) KT nCY_walk (n z_isinstance)
  have GJu := ok_judged (P := l.prog) (w := w) (mg := mg) (base := base) (k := 7) FJu FWl (GWl.mono (by decide)) bWl (g aWl) FSw (GSw.mono (by decide)) bSw (g aSw) MK (GKI.mono (by decide)) bKI (g aCK) MY (GYI.mono (by decide)) bYI (g aCY)
  have GSp := ok_tub (P := l.prog) (w := w) (mg := mg) (base := base) (k := 8) FSp (n z_int)
  have GWd := ok_scoop (P := l.prog) (w := w) (mg := mg) (base := base) (k := 0) FWd (n z_int) (n z_len) (n z_abs)
  have GPk := ok_pick (P := l.prog) (w := w) (mg := mg) (base := base) (k := 1) FPk FWd GWd bWd (g aWd) (n z_len)
  have GSt := ok_lstray (P := l.prog) (w := w) (mg := mg) (base := base) (k := 8) FSt (n z_len) (n z_range) (n z_abs) (n z_max) (n z_min)
  have GPc := ok_pcalm (P := l.prog) (w := w) (mg := mg) (base := base) (k := 8) FPc (n z_len) (n z_range)
  have GLs := ok_lis (P := l.prog) (w := w) (mg := mg) (base := base) (k := 8) FLs (n z_isinstance) (n z_list) (n z_tuple) (n z_bool) (n z_int) (n z_len) (n z_range) (n z_abs)
  have GDr := ok_drawn (P := l.prog) (w := w) (mg := mg) (base := base) (k := 8) FDr FWd (GWd.mono (by decide)) bWd (g aWd) FPk (GPk.mono (by decide)) bPk (g aPk) FLc (GLc.mono (by decide)) bLc (g aLc) FPl (GPl.mono (by decide)) bPl (g aPl) (n z_list) (n z_range)
  have GBe := ok_bent (P := l.prog) (w := w) (mg := mg) (base := base) (k := 7) (CP := CP) (CD := CD) FBe FWd (GWd.mono (by decide)) bWd (g aWd) MY (GYI.mono (by decide)) bYI (g aCY) KT nCY_walk (n z_isinstance) (n z_len) (n z_max) (n z_list) (n z_range)
  have AS : Ask l.prog w K mg base 8 CY CK CP CD fWd fPk fLc fPc fJu fSh fLs fKI fYI CB _ _ _ _ _ _ _ _ _ := ⟨FWd, GWd.mono (by decide), bWd, g aWd, FPk, GPk.mono (by decide), bPk, g aPk, FLc, GLc.mono (by decide), bLc, g aLc, FPc, GPc, bPc, g aPc, FJu, GJu, bJu, g aJu, FSh, GSh.mono (by decide), bSh, g aSh, FLs, GLs, bLs, g aLs, MK, GKI.mono (by decide), bKI, g aCK, MY, GYI.mono (by decide), bYI, g aCY, KT, nCY_walk⟩
  have GLo := ok_long FLo AS (n z_isinstance) (n z_len) (n z_repr) (n z_list) (n z_range)
  have GPB := ok_paperB (P := l.prog) (w := w) (mg := mg) (base := base) (k := 7) lPB cPB
  have GDB := ok_denialB (P := l.prog) (w := w) (mg := mg) (base := base) (k := 7) lDB cDB
  exact ok_law (k := 8) FLa FSp GSp bSp (g aSp) FDr GDr bDr (g aDr) FSt GSt bSt (g aSt) FBe GBe bBe (g aBe) FLo GLo bLo (g aLo) AS kSh MP GPP (g aCP) TP MD GDD (g aCD) TD TY TK GDB bDB abCY ibCY GPB bPB abCK ibCK (n z_isinstance) (n z_repr) (n z_tuple) (n z_range) (n z_bool)
end P51
end S_Og
open PySem PySem.W PyProof.Rows
set_option maxRecDepth 100000 in
set_option maxHeartbeats 0 in
theorem PySem.Challenge.cw_threelanes_k51_whole_colours_of_a_line_j_holds : PySem.Challenge.rw_threelanes_k51_whole_colours_of_a_line_j.Holds := by
  w_on; o_law; k_head; (case hw => w_witness2)
  k_fill
  refine Tl.walk_g (l := PySem.Challenge.rw_threelanes_k51_whole_colours_of_a_line_j) (n := 63) (k := 11) (x := "script") (sp := fun w => P51.spLaw _) rfl (by decide) rfl ⟨rfl, by decide, by decide⟩ (fun w h Y => PySem.W.kIn_of Y) ?F (fun _ _ a ns hl _ hS => ⟨a, ns, rfl, hS, hl, fun _ => rfl⟩)
  case F =>
    intro w mg fa h KX G hmg
    refine' P51.all_mk KX G hmg ?aIn ?lIn ?cIn ?kIn ?aWi ?lWi ?cWi ?kWi ?aLi ?lLi ?cLi ?kLi ?aRo ?lRo ?cRo ?kRo ?aFx ?lFx ?cFx ?kFx ?aWa ?lWa ?cWa ?kWa ?aIw ?lIw ?cIw ?kIw ?aPl ?lPl ?cPl ?kPl ?aFi ?lFi ?cFi ?kFi ?aRp ?lRp ?cRp ?kRp ?aFb ?lFb ?cFb ?kFb ?aLc ?lLc ?cLc ?kLc ?aLr ?lLr ?cLr ?kLr ?aLw ?lLw ?cLw ?kLw ?aJu ?lJu ?cJu ?kJu ?aSh ?lSh ?cSh ?kSh ?aWl ?lWl ?cWl ?kWl ?aSw ?lSw ?cSw ?kSw ?aIs ?lIs ?cIs ?kIs ?aSp ?lSp ?cSp ?kSp ?aWd ?lWd ?cWd ?kWd ?aPk ?lPk ?cPk ?kPk ?aSt ?lSt ?cSt ?kSt ?aDr ?lDr ?cDr ?kDr ?aPc ?lPc ?cPc ?kPc ?aLs ?lLs ?cLs ?kLs ?aBe ?lBe ?cBe ?kBe ?aLo ?lLo ?cLo ?kLo ?aLa ?lLa ?cLa ?kLa ?aCS ?bCS ?dCS ?tCS ?aCB ?xCB ?vCB ?saCB ?gaCB ?ggCB ?noCB ?keCB ?exCB ?tyCB ?hdCB ?ciCB ?haCB ?hmCB ?suCB ?kiCB ?afBI ?tfBI ?lfBI ?cfBI ?aCC ?xCC ?vCC ?saCC ?gaCC ?ggCC ?noCC ?keCC ?exCC ?tyCC ?hdCC ?ciCC ?haCC ?hmCC ?suCC ?kiCC ?afCI ?tfCI ?lfCI ?cfCI ?aCW ?xCW ?vCW ?saCW ?gaCW ?ggCW ?noCW ?keCW ?exCW ?tyCW ?hdCW ?ciCW ?haCW ?hmCW ?suCW ?kiCW ?afWI ?tfWI ?lfWI ?cfWI ?hn ?ht ?aCM ?xCM ?vCM ?sa_CM ?ga_CM ?gg_CM ?nw_CM ?nm_CM ?ke_CM ?ex_CM ?ty_CM ?hd_CM ?ci_CM ?su_CM ?afMI ?tfMI ?lfMI ?cfMI ?aCP ?pgCP ?hdCP ?poCP ?saCP ?mkCP ?kcCP ?haCP ?hmCP ?nCP_word ?nCP_parts ?aCD ?pgCD ?hdCD ?poCD ?saCD ?mkCD ?kcCD ?haCD ?hmCD ?nCD_word ?nCD_parts ?aCK ?pgCK ?hdCK ?poCK ?saCK ?mkCK ?kcCK ?haCK ?hmCK ?nCK_word ?nCK_parts ?aCY ?pgCY ?hdCY ?poCY ?saCY ?mkCY ?kcCY ?haCY ?hmCY ?nCY_word ?nCY_parts ?nCY_walk ?aiCP ?iiCP ?aiCD ?iiCD ?aiCK ?iiCK ?aiCY ?iiCY ?abCY ?ibCY ?abCK ?ibCK ?lPI ?cPI ?lPB ?cPB ?lDB ?cDB ?lDI ?cDI ?kvcDI ?kvsDI ?kvfDI ?kveDI ?kvdDI ?lKI ?cKI ?kvcKI ?kvsKI ?kvfKI ?kveKI ?kvdKI ?lYI ?cYI ?kvcYI ?kvsYI ?kvfYI ?kveYI ?kvdYI ?kvo ?kvp ?kvmKK ?kvaKK ?kvmYY ?kvaYY ?kvmYD ?kvaYD ?kvmDD ?kvaDD ?kvtfPI ?kvifPI ?kvtfDI ?kvifDI ?qyy ?qyk ?qyd ?qky ?qkk ?qkd ?qpy ?qpk ?qdy ?qdk ?qyNoneType ?qkNoneType ?qybool ?qkbool ?qyint ?qkint ?qystr ?qkstr ?qylist ?qklist ?qytuple ?qktuple ?qydict ?qkdict ?zM1 ?zM2 ?zM3 ?zM4 ?z_int ?z_bool ?z_list ?z_tuple ?z_isinstance ?z_all ?z_len ?z_abs ?z_range ?z_repr ?z_min ?z_max ?z_zip ?z_super ?z_divmod
    (case aIn => k_is)
    (case lIn => k_is)
    (case cIn => k_is)
    (case kIn => k_is)
    (case aWi => k_is)
    (case lWi => k_is)
    (case cWi => k_is)
    (case kWi => k_is)
    (case aLi => k_is)
    (case lLi => k_is)
    (case cLi => k_is)
    (case kLi => k_is)
    (case aRo => k_is)
    (case lRo => k_is)
    (case cRo => k_is)
    (case kRo => k_is)
    (case aFx => k_is)
    (case lFx => k_is)
    (case cFx => k_is)
    (case kFx => k_is)
    (case aWa => k_is)
    (case lWa => k_is)
    (case cWa => k_is)
    (case kWa => k_is)
    (case aIw => k_is)
    (case lIw => k_is)
    (case cIw => k_is)
    (case kIw => k_is)
    (case aPl => k_is)
    (case lPl => k_is)
    (case cPl => k_is)
    (case kPl => k_is)
    (case aFi => k_is)
    (case lFi => k_is)
    (case cFi => k_is)
    (case kFi => k_is)
    (case aRp => k_is)
    (case lRp => k_is)
    (case cRp => k_is)
    (case kRp => k_is)
    (case aFb => k_is)
    (case lFb => k_is)
    (case cFb => k_is)
    (case kFb => k_is)
    (case aLc => k_is)
    (case lLc => k_is)
    (case cLc => k_is)
    (case kLc => k_is)
    (case aLr => k_is)
    (case lLr => k_is)
    (case cLr => k_is)
    (case kLr => k_is)
    (case aLw => k_is)
    (case lLw => k_is)
    (case cLw => k_is)
    (case kLw => k_is)
    (case aJu => k_is)
    (case lJu => k_is)
    (case cJu => k_is)
    (case kJu => k_is)
    (case aSh => k_is)
    (case lSh => k_is)
    (case cSh => k_is)
    (case kSh => k_is)
    (case aWl => k_is)
    (case lWl => k_is)
    (case cWl => k_is)
    (case kWl => k_is)
    (case aSw => k_is)
    (case lSw => k_is)
    (case cSw => k_is)
    (case kSw => k_is)
    (case aIs => k_is)
    (case lIs => k_is)
    (case cIs => k_is)
    (case kIs => k_is)
    (case aSp => k_is)
    (case lSp => k_is)
    (case cSp => k_is)
    (case kSp => k_is)
    (case aWd => k_is)
    (case lWd => k_is)
    (case cWd => k_is)
    (case kWd => k_is)
    (case aPk => k_is)
    (case lPk => k_is)
    (case cPk => k_is)
    (case kPk => k_is)
    (case aSt => k_is)
    (case lSt => k_is)
    (case cSt => k_is)
    (case kSt => k_is)
    (case aDr => k_is)
    (case lDr => k_is)
    (case cDr => k_is)
    (case kDr => k_is)
    (case aPc => k_is)
    (case lPc => k_is)
    (case cPc => k_is)
    (case kPc => k_is)
    (case aLs => k_is)
    (case lLs => k_is)
    (case cLs => k_is)
    (case kLs => k_is)
    (case aBe => k_is)
    (case lBe => k_is)
    (case cBe => k_is)
    (case kBe => k_is)
    (case aLo => k_is)
    (case lLo => k_is)
    (case cLo => k_is)
    (case kLo => k_is)
    (case aLa => k_is)
    (case lLa => k_is)
    (case cLa => k_is)
    (case kLa => k_is)
    (case aCS => k_is)
    (case bCS => k_is)
    (case dCS => k_is)
    (case tCS => k_is)
    (case aCB => k_is)
    (case xCB => k_is)
    (case vCB => first | rfl | decide +kernel)
    (case saCB => k_is)
    (case gaCB => k_is)
    (case ggCB => k_is)
    (case noCB => k_is)
    (case keCB => k_is)
    (case exCB => k_is)
    (case tyCB => k_is)
    (case hdCB => k_is)
    (case ciCB => k_is)
    (case haCB => k_is)
    (case hmCB => k_is)
    (case suCB => k_is)
    (case kiCB => kit_is)
    (case afBI => k_is)
    (case tfBI => k_is)
    (case lfBI => k_is)
    (case cfBI => k_is)
    (case aCC => k_is)
    (case xCC => k_is)
    (case vCC => first | rfl | decide +kernel)
    (case saCC => k_is)
    (case gaCC => k_is)
    (case ggCC => k_is)
    (case noCC => k_is)
    (case keCC => k_is)
    (case exCC => k_is)
    (case tyCC => k_is)
    (case hdCC => k_is)
    (case ciCC => k_is)
    (case haCC => k_is)
    (case hmCC => k_is)
    (case suCC => k_is)
    (case kiCC => kit_is)
    (case afCI => k_is)
    (case tfCI => k_is)
    (case lfCI => k_is)
    (case cfCI => k_is)
    (case aCW => k_is)
    (case xCW => k_is)
    (case vCW => first | rfl | decide +kernel)
    (case saCW => k_is)
    (case gaCW => k_is)
    (case ggCW => k_is)
    (case noCW => k_is)
    (case keCW => k_is)
    (case exCW => k_is)
    (case tyCW => k_is)
    (case hdCW => k_is)
    (case ciCW => k_is)
    (case haCW => k_is)
    (case hmCW => k_is)
    (case suCW => k_is)
    (case kiCW => kit_is)
    (case afWI => k_is)
    (case tfWI => k_is)
    (case lfWI => k_is)
    (case cfWI => k_is)
    (case hn => k_is)
    (case ht => k_is)
    (case aCM => k_is)
    (case xCM => k_is)
    (case vCM => first | rfl | decide +kernel)
    (case sa_CM => k_is)
    (case ga_CM => k_is)
    (case gg_CM => k_is)
    (case nw_CM => k_is)
    (case nm_CM => k_is)
    (case ke_CM => k_is)
    (case ex_CM => k_is)
    (case ty_CM => k_is)
    (case hd_CM => k_is)
    (case ci_CM => k_is)
    (case su_CM => k_is)
    (case afMI => k_is)
    (case tfMI => k_is)
    (case lfMI => k_is)
    (case cfMI => k_is)
    (case aCP => k_is)
    (case pgCP => k_is)
    (case hdCP => k_is)
    (case poCP => k_is)
    (case saCP => k_is)
    (case mkCP => k_is)
    (case kcCP => k_is)
    (case haCP => k_is)
    (case hmCP => k_is)
    (case nCP_word => k_is)
    (case nCP_parts => k_is)
    (case aCD => k_is)
    (case pgCD => k_is)
    (case hdCD => k_is)
    (case poCD => k_is)
    (case saCD => k_is)
    (case mkCD => k_is)
    (case kcCD => k_is)
    (case haCD => k_is)
    (case hmCD => k_is)
    (case nCD_word => k_is)
    (case nCD_parts => k_is)
    (case aCK => k_is)
    (case pgCK => k_is)
    (case hdCK => k_is)
    (case poCK => k_is)
    (case saCK => k_is)
    (case mkCK => k_is)
    (case kcCK => k_is)
    (case haCK => k_is)
    (case hmCK => k_is)
    (case nCK_word => k_is)
    (case nCK_parts => k_is)
    (case aCY => k_is)
    (case pgCY => k_is)
    (case hdCY => k_is)
    (case poCY => k_is)
    (case saCY => k_is)
    (case mkCY => k_is)
    (case kcCY => k_is)
    (case haCY => k_is)
    (case hmCY => k_is)
    (case nCY_word => k_is)
    (case nCY_parts => k_is)
    (case nCY_walk => k_is)
    (case aiCP => k_is)
    (case iiCP => k_is)
    (case aiCD => k_is)
    (case iiCD => k_is)
    (case aiCK => k_is)
    (case iiCK => k_is)
    (case aiCY => k_is)
    (case iiCY => k_is)
    (case abCY => k_is)
    (case ibCY => k_is)
    (case abCK => k_is)
    (case ibCK => k_is)
    (case lPI => k_is)
    (case cPI => k_is)
    (case lPB => k_is)
    (case cPB => k_is)
    (case lDB => k_is)
    (case cDB => k_is)
    (case lDI => k_is)
    (case cDI => k_is)
    (case kvcDI => k_is)
    (case kvsDI => rfl)
    (case kvfDI => decide +kernel)
    (case kveDI => k_is)
    (case kvdDI => k_is)
    (case lKI => k_is)
    (case cKI => k_is)
    (case kvcKI => k_is)
    (case kvsKI => rfl)
    (case kvfKI => decide +kernel)
    (case kveKI => k_is)
    (case kvdKI => k_is)
    (case lYI => k_is)
    (case cYI => k_is)
    (case kvcYI => k_is)
    (case kvsYI => rfl)
    (case kvfYI => decide +kernel)
    (case kveYI => k_is)
    (case kvdYI => k_is)
    (case kvo => k_is)
    (case kvp => decide +kernel)
    (case kvmKK => k_is)
    (case kvaKK => ks_is)
    (case kvmYY => k_is)
    (case kvaYY => ks_is)
    (case kvmYD => k_is)
    (case kvaYD => ks_is)
    (case kvmDD => k_is)
    (case kvaDD => ks_is)
    (case kvtfPI => k_is)
    (case kvifPI => k_is)
    (case kvtfDI => k_is)
    (case kvifDI => k_is)
    (case zM1 => k_is)
    (case zM2 => k_is)
    (case zM3 => k_is)
    (case zM4 => k_is)
    (case z_int => k_is)
    (case z_bool => k_is)
    (case z_list => k_is)
    (case z_tuple => k_is)
    (case z_isinstance => k_is)
    (case z_all => k_is)
    (case z_len => k_is)
    (case z_abs => k_is)
    (case z_range => k_is)
    (case z_repr => k_is)
    (case z_min => k_is)
    (case z_max => k_is)
    (case z_zip => k_is)
    (case z_super => k_is)
    (case z_divmod => k_is)
    (case qyy => kit_is)
    (case qyk => kit_is)
    (case qyd => kit_is)
    (case qky => kit_is)
    (case qkk => kit_is)
    (case qkd => kit_is)
    (case qpy => kit_is)
    (case qpk => kit_is)
    (case qdy => kit_is)
    (case qdk => kit_is)
    (case qyNoneType => kit_is)
    (case qkNoneType => kit_is)
    (case qybool => kit_is)
    (case qkbool => kit_is)
    (case qyint => kit_is)
    (case qkint => kit_is)
    (case qystr => kit_is)
    (case qkstr => kit_is)
    (case qylist => kit_is)
    (case qklist => kit_is)
    (case qytuple => kit_is)
    (case qktuple => kit_is)
    (case qydict => kit_is)
    (case qkdict => kit_is)
