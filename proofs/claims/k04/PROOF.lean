import PyProof.Rows.All
import Wide.All
import OpenK.AllK
import Wide.FinOn
import HandS.ForMost
import HandS.Evl
import HandS.IsInst
import HandS.TupLe
import HandS.Conv
import HandS.SetFor
import HandS.Zip
import HandS.Defaults
import KE.KEqSeq
import PyProof.ReprRoads
import HandS.Star
import HandS.More
import KE.KSuper
import HandS.Zip0
import KE.KDictZip
import HandS.SortInts
import HandS.TupAny
import HandS.Iter
import KE.GoesEnum
import HandS.Walk
import HandS.DictComp
import HandS.Exc
import HandS.Lambda
import HandS.TryOnly
import HandS.Call
import KE.KExcIs
import HandS.ForSpec
import HandS.ExcOwn
import HandS.EndTab
import HandS.SortKw
import KE.KMinKey
import KE.DatumOrd
import HandS.Strs
import HandS.Text
import HandS.StrMore
import PyProof.DefStmt
import PyProof.StrOps2
import PyProof.FitsStr
import PyProof.SliceStr2
import HandS.Style
import HandS.TupMul
import KE.GoesEnumKw
import KE.KItemsList
import HandS.ListItems
import KE.KCallOwn
import HandS.SetKeys
import HandS.ExcInit
import HandS.Flow
import PyProof.Rows.StrSplitJoin
import HandS.OwnEq
import PyProof.InstNe
import HandS.ExcField
import HandS.ClsMeth
import HandS.ExcIs
import PySem.Challenge.RW_threelanes_k04_texts_of_webs_bent
set_option Elab.async false
set_option linter.all false
set_option maxRecDepth 100000
section S_Ru
namespace Tl
open PySem PySem.Spec PyProof.Rows L2
/-! ### len(set(x)) of a list or a tuple of ints, unlike or not -/
theorem met_len (ns : List Int) : ∀ i, i ≤ ns.length → ((firstMet (fun i => ns.getD i 0) i).length = i ↔ (ns.take i).Nodup) ∧ ∀ k, k ∈ firstMet (fun i => ns.getD i 0) i ↔ k ∈ ns.take i
  | 0, _ => by
    rw [firstMet_zero]
    simp
  | i + 1, h => by
    have hi : i < ns.length := h
    obtain ⟨a1, a2⟩ := met_len ns i (Nat.le_of_lt hi)
    have ex : ns.getD i 0 = ns[i] := by simp [List.getD_eq_getElem?_getD, hi]
    have et : ns.take (i + 1) = ns.take i ++ [ns[i]] := by rw [List.take_add_one, List.getElem?_eq_getElem hi] <;> rfl
    have eb : (firstMet (fun i => ns.getD i 0) i).any (· == ns[i]) = true ↔ ns[i] ∈ ns.take i := by
      rw [List.any_eq_true]
      constructor
      · intro ⟨x, hx, he⟩
        rw [← beq_iff_eq.mp he]
        exact (a2 x).mp hx
      · intro hx
        exact ⟨_, (a2 _).mpr hx, beq_self_eq_true _⟩
    have le := firstMet_length_le (fun i => ns.getD i 0) i
    rw [firstMet_succ, et]
    show ((step_dedup _ (ns.getD i 0)).length = i + 1 ↔ _) ∧ _
    rw [ex]
    unfold step_dedup
    have nd : (ns.take i ++ [ns[i]]).Nodup ↔ (ns.take i).Nodup ∧ ns[i] ∉ ns.take i := by
      rw [List.nodup_append]
      simp
      exact fun _ => ⟨fun y z => y _ z rfl, fun y a ha e => y (e ▸ ha)⟩
    by_cases hm : ns[i] ∈ ns.take i
    · rw [if_pos (eb.mpr hm)]
      refine ⟨⟨fun e => by omega, fun e => absurd hm (nd.mp e).2⟩, fun k => ?_⟩
      rw [a2 k, List.mem_append, List.mem_singleton]
      exact ⟨.inl, fun z => z.elim id fun e => e ▸ hm⟩
    · rw [if_neg (fun z => hm (eb.mp z))]
      refine ⟨?_, fun k => ?_⟩
      · rw [List.length_append, List.length_singleton, nd]
        exact ⟨fun e => ⟨a1.mp (by omega), hm⟩, fun e => by rw [a1.mpr e.1]⟩
      · rw [List.mem_append, List.mem_append, a2 k]
def tLenSetN (K : PySem.W.Frag) (ta : TE) : TE := fun σ H Q => ta σ H fun x H1 => ∃ (l : Addr) (ns : List Int), x = .ref l ∧ SqL K H1 l (ns.map V.int) ∧ ns.length ≤ 4000 ∧ ∀ c : Nat, (c = ns.length ↔ ns.Nodup) → Q (.int (c : Int)) H1
theorem pe_lenSetN {X : Cx} {a : Expr} {ta : TE} {p p2 q pos : Pos} (hg : Gl X "len") (hm : X.mg "len" = none) (hg2 : Gl X "set") (hm2 : X.mg "set" = none) (ha : PE X a ta) (hc : X.calm = true := by rfl)
    (na : starEach [a] X.env = (false, eval a X.env) :: starEach [] X.env := by rfl) : PE X (.Call (.Name "len" p) [.Call (.Name "set" p2) [a] [] q] [] pos) (tLenSetN X.K ta) := by
  constructor
  intro pins s σ H Q I h
  refine Call_ (ld_blt I hg hm boot_len (callWith_builtin1 (args_cons (Call_ (ld_blt I hg2 hm2 boot_set (callWith_type1 (args_cons (thn (ha.run pins s σ H _ I h) fun v s1 hv => args_nil ?_) na) na rfl))) rfl) rfl rfl))
  obtain ⟨x, H1, I1, r1, l, ns, rfl, hq, hl, q1⟩ := hv
  cases r1
  obtain ⟨its, r, pl, hz⟩ := I1.list hq
  have hn : its.toArray.size = ns.length := by rw [List.size_toArray, ← r.length, List.length_map]
  refine call_set_list (I1.ok.hd hc) pl.isList (by simpa using RZ.intsAre_vals r) (by rw [hn]; unfold scanBound; omega) fun h' tk hS hk => args_nil ?_
  obtain ⟨o, es, ep, t, ho, hex, hd, _, _, hb, hf, hsz⟩ := hS
  have I2 : Inv X pins σ H1 { s1 with heap := h', toks := tk } := I1.kept fun b o e => hk b o (Heap.lt_size e) e
  refine call_len_set ho hex hd hf (by unfold scanBound at hb; omega) ⟨.int es.size, H1, I2.tok _, ⟨_, rfl⟩, q1 es.size ?_⟩
  rw [hsz, hn]
  have e := (met_len ns ns.length (Nat.le_refl _)).1
  rwa [List.take_length] at e
/-- the same of a tuple -/
def tLenSetU (K : PySem.W.Frag) (ta : TE) : TE := fun σ H Q => ta σ H fun x H1 => ∃ (l : Addr) (ns : List Int), x = .ref l ∧ SqT K H1 l (ns.map V.int) ∧ ns.length ≤ 4000 ∧ ∀ c : Nat, (c = ns.length ↔ ns.Nodup) → Q (.int (c : Int)) H1
theorem nodup_same {as bs : List Int} (ha : as.Nodup) (hm : ∀ k, k ∈ bs ↔ k ∈ as) : as.length = bs.length ↔ bs.Nodup := by
  have sub : ∀ (as bs : List Int), as.Nodup → (∀ k, k ∈ as → k ∈ bs) → as.length ≤ bs.length := by
    intro as
    induction as with
    | nil => intro bs _ _; exact Nat.zero_le _
    | cons a r ih =>
      intro bs hn hs
      rw [List.nodup_cons] at hn
      have h1 : a ∈ bs := hs a List.mem_cons_self
      have h2 := ih (bs.erase a) hn.2 fun k hk => by
        have hne : k ≠ a := fun e => hn.1 (e ▸ hk)
        exact (List.mem_erase_of_ne hne).mpr (hs k (List.mem_cons_of_mem _ hk))
      rw [List.length_erase_of_mem h1] at h2
      have h3 : 0 < bs.length := List.length_pos_of_mem h1
      rw [List.length_cons]
      omega
  have strict : ∀ (bs as : List Int), as.Nodup → (∀ k, k ∈ as → k ∈ bs) → ¬ bs.Nodup → as.length < bs.length := by
    intro bs
    induction bs with
    | nil => intro as _ _ h; exact absurd List.nodup_nil h
    | cons b r ih =>
      intro as hn hs hb
      rw [List.length_cons]
      by_cases hbr : b ∈ r
      · have := sub as r hn fun k hk => by
          rcases List.mem_cons.mp (hs k hk) with e | e
          · rw [e]; exact hbr
          · exact e
        omega
      · have hr : ¬ r.Nodup := fun z => hb (List.nodup_cons.mpr ⟨hbr, z⟩)
        have h1 := ih (as.erase b) (hn.erase b) (fun k hk => by
          have h2 := hn.mem_erase_iff.mp hk
          rcases List.mem_cons.mp (hs k h2.2) with e | e
          · exact absurd e h2.1
          · exact e) hr
        by_cases ha : b ∈ as
        · rw [List.length_erase_of_mem ha] at h1
          omega
        · rw [List.erase_of_not_mem ha] at h1
          omega
  constructor
  · intro e
    apply Classical.byContradiction
    intro h
    have := strict bs as ha (fun k hk => (hm k).mpr hk) h
    omega
  · intro hb
    have h1 := sub as bs ha fun k hk => (hm k).mpr hk
    have h2 := sub bs as hb fun k hk => (hm k).mp hk
    omega
theorem pe_lenSetU {X : Cx} {a : Expr} {ta : TE} {p p2 q pos : Pos} (hg : Gl X "len") (hm : X.mg "len" = none) (hg2 : Gl X "set") (hm2 : X.mg "set" = none) (ha : PE X a ta) (hc : X.calm = true := by rfl)
    (na : starEach [a] X.env = (false, eval a X.env) :: starEach [] X.env := by rfl) : PE X (.Call (.Name "len" p) [.Call (.Name "set" p2) [a] [] q] [] pos) (tLenSetU X.K ta) := by
  constructor
  intro pins s σ H Q I h
  refine Call_ (ld_blt I hg hm boot_len (callWith_builtin1 (args_cons (Call_ (ld_blt I hg2 hm2 boot_set (callWith_type1 (args_cons (thn (ha.run pins s σ H _ I h) fun v s1 hv => args_nil ?_) na) na rfl))) rfl) rfl rfl))
  obtain ⟨x, H1, I1, r1, l, ns, rfl, hq, hl, q1⟩ := hv
  cases r1
  obtain ⟨its, r, pl, hz⟩ := I1.tuple hq
  refine call_set_tupI ns (I1.ok.hd hc) pl (by simpa using RZ.intsAre_vals r) (by unfold scanBound; omega) fun h' tk c hS hcl hk => args_nil ?_
  obtain ⟨o, es, ep, t, ho, hex, hd, _, hnd, hS2, hb, hf, hsz, _⟩ := hS
  have I2 : Inv X pins σ H1 { s1 with heap := h', toks := tk } := I1.kept hk
  refine call_len_set ho hex hd hf (by unfold scanBound at hb; omega) ⟨.int es.size, H1, I2.tok _, ⟨_, rfl⟩, q1 es.size ?_⟩
  have e := nodup_same (bs := ns) hnd fun k => by
    rw [← hS2 k]
    simp
  rwa [List.length_map, Array.length_toList] at e
/-! ### repr of data, where no repr is under way -/
def rRepr (K : PySem.W.Frag) : List V → Hp → VK → Prop := fun xs H Q => ∃ (a : Addr) (d : PyData), xs = [.ref a] ∧ Dp K H (.ref a) d ∧ d.showable = true ∧ d.hasDict = false ∧ d.depth ≤ 20 ∧ d.shown.length ≤ sizeLine ∧ Q (.str d.shown) H
theorem call_reprD {X : Cx} (hg : X.A.guards = some []) (hu : X.A.units + 64 < cLine) : CallR X (.builtin "repr") (rRepr X.K) := by
  intro pins s σ H xs us Q I r h
  obtain ⟨a, d, rfl, hd, hs, hn, hp, hz, q⟩ := h
  obtain ⟨u, rfl, ru⟩ := vals1 r
  cases ru
  obtain ⟨as, rd⟩ := Dp.reads I d _ _ hd rfl
  exact repr_of_reads' rd hs (PyData.noDict_hsm hn) hg (by omega) (fun _ _ e => e) (fun h' u tk hk => ⟨.str d.shown, H, I.kept hk, ⟨_, rfl⟩, q⟩) hz
/-! ### a call by keywords alone -/
theorem kbn_of {K : PySem.W.Frag} {x qual : Str} {st : Stmt} {f : Addr} {fd : FuncData} {ps : List Str} (F : Fun K x qual st f fd) (n : Nat) (ks : List Str) (g : {α : Type} → List α → List α → List α)
    (rel : ∀ {vs zs : List V} {us ws : List Value}, Vals vs us → Vals zs ws → Vals (g vs zs) (g us ws))
    (h : ∀ (kV doc pm : Value) (an : Option Addr) (cdv ct : Value) (us ws : List Value), us.length = n → ws.length = ks.length → bindArgs (PySem.W.fnOf x qual (defArgs st) (defBody st) (defScope st) .none kV doc pm an cdv ct) ⟨us, ks.zip ws⟩ = pure (ps.zip (g us ws))) :
    KBn K fd ps n ks (fun us ws => g us ws) (fun vs zs => g vs zs) := by
  obtain ⟨_, _, kV, doc, pm, an, cdv, ct, _, rfl, _, _⟩ := F.ex
  exact ⟨fun s us ws _ l1 l2 => .of_eq (h kV doc pm an cdv ct us ws l1 l2), rel⟩
theorem pe_callN0 {X : Cx} {CX : CXT} {k : Nat} {f : Addr} {fd : FuncData} {ps ks : List Str} {sp : Sp} {E : XK} {x : Str} {p pos : Pos} {kws : List Keyword} {tk : TA} {g : List Value → List Value → List Value} {gV : List V → List V → List V}
    (F : FnOk X.prog X.w X.K X.mg X.base CX k f fd ps sp) (hr : Room k X.A) (hg : Gl X x) (hm : X.mg x = some (.ref f)) (hk : PySem.W.keepIn X.K (.ref f) = true) (hb : KBn X.K fd ps 0 ks g gV) (hx : Passes CX X E)
    (hkw : PK X kws tk) (hall : (backToKw pos (keywordEach kws X.env)).all (·.1.isSome) = true := by rfl) (hks : (backToKw pos (keywordEach kws X.env)).filterMap (·.1) = ks := by rfl) (hdb : (x == ("__debug__" : Str)) = false := by decide)
    (hpl : ((backTo pos (starEach [] X.env)).any (·.1) || (backToKw pos (keywordEach kws X.env)).any (·.1.isNone)) = false := by rfl) :
    PE X (.Call (.Name x p) [] kws pos) (tCallN 0 ks.length sp gV E tNil tk) := by
  constructor
  intro pins s σ H Q I h
  refine wpAny_Call_Name_kw (ld_glob I hg hm (PySem.W.callWith_KW0 (h₀ := X.base) I.ok.mod.kin hk hall (thn (hkw.run pos pins s σ H _ I h) fun ws s2 hv => ?_) hpl) hdb)
  obtain ⟨zs, H2, I2, rz, l1, l2, q2⟩ := hv
  refine ⟨I2.kIn, ?_⟩
  rw [hks]
  exact run_fnN (us := []) (vs := []) F hr hb hx I2 .nil rz rfl l2 q2
/-! ### defs that are called where no repr is under way -/
structure FnG (P : Program) (w : World) (K : PySem.W.Frag) (mg : Str → Option Value) (base : Heap) (k : Nat) (f : Addr) (fd : FuncData) (ps : List Str) (sp : Sp) : Prop where
  len : ∀ {vs H Q E}, sp vs H Q E → vs.length = ps.length
  go : ∀ {A : Around} {outer : List Env} {s : Shared} {H : Hp} {args : Args} {us : List Value} {vs : List V} {Q : VK} {E : XK}, A.guards = some [] → Room k A → Env0 P w K mg base A outer s H → BindsTo s fd args (ps.zip us) → Vals vs us →
    sp vs H Q E → codeAny (model P w) A (.call (.ref f) args) (CR CX0 outer P w H s Q E) s
theorem fn_g {P : Program} {w : World} {K : PySem.W.Frag} {mg : Str → Option Value} {base : Heap} {x qual : Str} {st : Stmt} {f : Addr} {fd : FuncData} {N ps : List Str} {k : Nat} {sp : Sp} (F : Fun K x qual st f fd) (S : FnScope N ps (defScope st))
    (len : ∀ {vs H Q E}, sp vs H Q E → vs.length = ps.length)
    (hbody : ∀ (cdv : Value) (A : Around) (outer : List Env) (s : Shared) (H : Hp) (vs : List V) (Q : VK) (E : XK), A.guards = some [] → Room k (A.deeper (envOfC qual (defScope st) s.heap.objs.size f cdv)) → sp vs H Q E →
      ∃ t, PSs (cxOf CX0 P w K mg base N qual (defScope st) f cdv A outer s H E).nox (defBody st) t ∧ t { nx := fun _ H' => Q .non H', rt := Q } (start N vs) H) : FnG P w K mg base (k + 1) f fd ps sp := by
  obtain ⟨oc, od, kV, doc, pm, an, cdv, ct, osl, rfl, lk, hcd⟩ := F.ex
  refine ⟨len, fun {A outer s H args us vs Q E} hgd hr e0 hb r hsp => ?_⟩
  have kin : K.In s.heap := e0.mod.kin.keeps fun b o e => (e0.bs b o e).1
  have nl : s.heap.NoLimit := e0.mod.nolimit.keeps fun b o e => (e0.bs b o e).1
  refine codeAny_call_function hr.depth (kin _ _ lk) rfl S.co S.gen rfl (PySem.W.codeRec_of kin hcd) (hb _ _ _ _ (wpAny_newFunctionEnv_cells S.kind ?_ fun env he s1 x => ?_))
  · intro y hy
    have hp : y.1 ∈ ps := (List.of_mem_zip (a := y.1) (b := y.2) hy).1
    exact (S.par y.1 hp).imp id fun q => ⟨q, PySem.W.cellsFrom_some _ _ _ (.inl q)⟩
  · cases he
    obtain ⟨t, ht, hq⟩ := hbody cdv A outer s H vs Q E hgd (hr.deeper _) hsp
    have I := inv_start (CX := CX0) (P := P) (w := w) (base := base) (E := E) (qual := qual) (f := f) (cd := cdv) S hr.hd e0 (len hsp) r x
    refine ⟨nl.keeps x.toInCall.keep, codeAny_func (wpAny_mono (ht.nox.run [] s1 (start N vs) H _ I hq) (fun fl s' hs => ?_) fun _ _ hs => hs)⟩
    cases fl with
    | ret u =>
      obtain ⟨v, σ', H', J, rv, q⟩ := hs
      exact ⟨v, H', J.os, J.bare, J.base, J.hok, rv, q⟩
    | next =>
      obtain ⟨σ', H', J, q⟩ := hs
      exact ⟨.non, H', J.os, J.bare, J.base, J.hok, rfl, q⟩
    | brk => exact hs.elim fun _ h => h.elim fun _ h => h.2.elim
    | cont => exact hs.elim fun _ h => h.elim fun _ h => h.2.elim
/-- the call of the law itself: at its own room no repr is under way -/
theorem law_g {P : Program} {w : World} {K : PySem.W.Frag} {mg mb : Str → Option Value} {k : Nat} {fa a : Addr} {fd : FuncData} {x : Str} {sp : Sp} {s₁ : Shared} {vs : List Value} {ns : List Int}
    (kin : K.In s₁.heap) (hns : s₁.heap.Ns mainGlobals mg) (hb : s₁.heap.Ns builtinsNs mb) (hbb : ∀ x : Str, x ≠ "__name__" → mb x = bootBuiltins x) (hlim : s₁.heap.NoLimit) (hg : s₁.gens = #[])
    (ha : s₁.heap.get? a = some { cls := .type "list", data := .seq vs.toArray }) (hi : IntsAre vs ns) (hl : ns.length ≤ sizeLine) (hr : Room k callerA)
    (F : ∀ base : Heap, K.In base → base.Ns mainGlobals mg → FnG P w K mg base k fa fd [x] sp) (hbind : ∀ (s : Shared) (u : Value), BindsTo s fd ⟨[u], []⟩ [(x, u)])
    (hsp : ∀ H : Hp, Only H → SqL K H a (ns.map V.int) → sp [.ref a] H (fun v _ => v = .bl true) fun _ _ _ => False) :
    codeAny (model P w) callerA (.call (.ref fa) ⟨[.ref a], []⟩) (fun r s' => r = .ok (.ret (.bool true)) ∧ OldK s₁.heap s'.heap ∧ s'.os = s₁.os ∧ AllBare s'.gens) s₁ := by
  have rv := vals_ints hi
  have run : ∀ H : Hp, Only H → SqL K H a (ns.map V.int) → HOk P w H s₁.heap → (∀ b u, H b = some u → b = a ∧ K.lookup a = none) →
      codeAny (model P w) callerA (.call (.ref fa) ⟨[.ref a], []⟩) (fun r s' => r = .ok (.ret (.bool true)) ∧ OldK s₁.heap s'.heap ∧ s'.os = s₁.os ∧ AllBare s'.gens) s₁ := by
    intro H hO hS hok hA
    have none_of : ∀ b : Addr, (b = a → K.lookup a ≠ none) → H b = none := fun b hb => by
      cases q : H b with
      | none => rfl
      | some u =>
        obtain ⟨e1, e2⟩ := hA b u q
        exact absurd e2 (hb e1)
    have ns_of : ∀ {b : Addr} {m : Str → Option Value}, s₁.heap.Ns b m → (hidT s₁.heap H).Ns b m := fun {b m} hm => by
      obtain ⟨o, es, ep, e, d, r⟩ := hm
      refine ⟨o, es, ep, hidT_get e ?_, d, r⟩
      cases q : H b with
      | none => rfl
      | some u =>
        obtain ⟨e1, _⟩ := hA b u q
        rw [e1, ha] at e
        cases e
        exact absurd d (by intro z; cases z)
    have kb : K.In (hidT s₁.heap H) := fun b o e => hidT_get (kin b o e) (none_of b fun e1 z => by
      rw [e1, z] at e
      cases e)
    have hM : Mod K mg (hidT s₁.heap H) := ⟨kb, ns_of hns, ⟨mb, ns_of hb, hbb⟩, hlim.elim fun mc h => ⟨mc, ns_of h.1, h.2⟩⟩
    have e0 : Env0 P w K mg (hidT s₁.heap H) callerA [] s₁ H := ⟨rfl, hM, fun _ _ e => of_hidT e, by rw [hidT_size] <;> exact Nat.le_refl _, trivial, fun _ hb => (nomatch hb), hok, .of_eq hg⟩
    refine codeAny_mono ((F _ kb (ns_of hns)).go rfl hr e0 (us := [.ref a]) (hbind s₁ (.ref a)) (vs := [.ref a]) (.cons rfl .nil) (hsp H hO hS)) fun r s' h => ?_
    match r, h with
    | .ok (.ret u), h =>
      obtain ⟨v, H', os, bare, un, hok', r', q⟩ := h
      cases (show v = .bl true from q)
      cases (show u = Value.bool true from r')
      refine ⟨rfl, OldK.of_keep fun b o e => ?_, os, bare⟩
      rcases hO b with z | ⟨ob, xs, z⟩
      · exact un.keep b o e z (fun y => (nomatch y)) (fun y => (nomatch y))
      · obtain ⟨e1, _⟩ := hok b _ z
        obtain ⟨e2, _⟩ := hok' b _ (un.frzs b ob _ z)
        rw [e] at e1
        cases e1
        exact e2
    | .error e, h => exact False.elim h
    | .ok .next, h => exact False.elim h
    | .ok .brk, h => exact False.elim h
    | .ok .cont, h => exact False.elim h
  cases hk : K.lookup a with
  | some o =>
    have e := kin a o hk
    rw [ha] at e
    cases e
    refine run (fun _ => none) (fun _ => .inl rfl) (.inr ⟨_, vs.toArray, _, hk, rfl, rfl, rfl, ?_, by simpa using rv⟩) (fun b u z => (nomatch z)) (fun b u z => (nomatch z))
    rw [List.size_toArray, hi.length]
    exact hl
  | none =>
    have at_a : ∀ b u, (if b = a then some (HO.frz { cls := .type "list", data := .seq vs.toArray } (.lst (ns.map V.int))) else none) = some u → b = a ∧ u = HO.frz { cls := .type "list", data := .seq vs.toArray } (.lst (ns.map V.int)) := fun b u z => by
      by_cases hb : b = a
      · rw [if_pos hb] at z
        exact ⟨hb, (Option.some.inj z).symm⟩
      · rw [if_neg hb] at z
        cases z
    refine run (fun b => if b = a then some (.frz { cls := .type "list", data := .seq vs.toArray } (.lst (ns.map V.int))) else none) (fun b => ?_) (.inl (.inr ⟨_, if_pos rfl⟩)) (fun b u z => ?_) fun b u z => ⟨(at_a b u z).1, hk⟩
    · by_cases hb : b = a
      · exact .inr ⟨_, _, if_pos hb⟩
      · exact .inl (if_neg hb)
    · obtain ⟨e1, e2⟩ := at_a b u z
      subst e1
      subst e2
      exact ⟨ha, by rw [List.length_map]; exact hl, vs, _, rv, ha⟩
theorem walk_g {l : PySem.W.OpenLaw} {n k : Nat} {q : Program} {loose : List Str} {XP : (Str → Option Value) → Heap → Prop} {YP : World → Heap → Prop} {d : DefRec} {K : Params → PySem.W.Frag} {sp : World → Sp} {x : Str}
    (hn : l.most = some n) (hn2 : n ≤ sizeLine) (hdf : d.params.defaults = []) (hr : Room k callerA) (hY : ∀ (w : World) (h : Heap), YP w h → (K w.params).In h)
    (F : ∀ (w : World) (mg : Str → Option Value) (fa : Addr) (h : Heap), (K w.params).In h → h.Ns mainGlobals mg → mg d.name = some (.ref fa) →
      ∃ fd : FuncData, (∀ (s : Shared) (u : Value), BindsTo s fd ⟨[u], []⟩ [(x, u)]) ∧ ∀ base : Heap, (K w.params).In base → base.Ns mainGlobals mg → FnG l.prog w (K w.params) mg base k fa fd [x] (sp w))
    (hsp : ∀ (w : World) (H : Hp) (a : Addr) (ns : List Int), ns.length ≤ n → Only H → SqL (K w.params) H a (ns.map V.int) → sp w [.ref a] H (fun v _ => v = .bl true) fun _ _ _ => False) :
    PySem.W.WalkO q loose XP YP l.row.toRowW d [] (fun f vs => PySem.call f vs) := by
  refine Att.attach_call hn hdf fun w s₀ s₁ mg mb fa o pm cd doc a vs ns G Y ho hd hcd hmg hobj hints hlen hg => ?_
  obtain ⟨fd, h1, h2⟩ := F w mg fa _ (hY w _ Y) G.T.g hmg
  exact law_g (hY w _ Y) G.T.g G.T.b G.T.builtins G.T.nolimit hg hobj hints (Nat.le_trans hlen hn2) hr h2 h1 fun H hO hS => hsp w H a ns hlen hO hS
end Tl
end S_Ru
section S_Su
namespace Tl
open PySem PySem.Spec PyProof.Rows L2
/-! ### a method of a class that begins with super().__init__(..) -/
/-- names of such a def: locals first, no cell, the class's own cell free -/
structure SuScope (N P : List Str) (sc : Scope) : Prop where
  kind : sc.kind = .function
  co : sc.isCoroutine = false
  gen : sc.isGenerator = false
  nd : N.Nodup
  pre : N.take P.length = P
  par : ∀ x ∈ P, sc.names.lookup x = some .local
  nocell : ∀ y ∈ sc.names, y.2 ≠ .cell
  free : ∀ y ∈ sc.names, y.2 = .free → y.1 = "__class__"
  cls : sc.names.lookup ("__class__" : Str) = some .free
  sup : sc.names.lookup ("super" : Str) = some .globalImplicit
/-- the context of such a def's body -/
def suCx (P : Program) (w : World) (K : PySem.W.Frag) (mg : Str → Option Value) (base : Heap) (N : List Str) (qual : Str) (scope : Scope) (f : Addr) (cd : Value) (cc : Addr) (A : Around) (outer : List Env) (s : Shared) (H : Hp) (E : XK) : Cx where
  prog := P
  w := w
  K := K
  mg := mg
  base := base
  A := A.deeper (PySem.W.ksEnv qual scope s.heap.objs.size f cd cc)
  N := N
  s_0 := s
  H_0 := H
  env := PySem.W.ksEnv qual scope s.heap.objs.size f cd cc
  outer := outer
  stack := PySem.W.ksEnv qual scope s.heap.objs.size f cd cc :: outer
  ex := []
  calm := true
  fn := fun _ => false
  pn := []
  xe := fun _ _ => False
theorem lookup_rev {ps : List Str} {us : List Value} (nd : ps.Nodup) {i : Nat} {y : Str} {u : Value} (h1 : ps[i]? = some y) (h2 : us[i]? = some u) : (ps.zip us).reverse.lookup y = some u := by
  have hm : (y, u) ∈ (ps.zip us).reverse := by
    rw [List.mem_reverse]
    refine List.mem_of_getElem? (i := i) ?_
    rw [List.getElem?_zip_eq_some]
    exact ⟨h1, h2⟩
  have key : ∀ (l : List (Str × Value)), (l.map (·.1)).Nodup → (y, u) ∈ l → l.lookup y = some u := by
    intro l
    induction l with
    | nil => intro _ h; cases h
    | cons p r ih =>
      intro hn h
      rw [List.map_cons, List.nodup_cons] at hn
      rcases List.mem_cons.mp h with e | e
      · rw [← e, List.lookup_cons, beq_self_eq_true]
      · have hne : y ≠ p.1 := fun z => hn.1 (z ▸ List.mem_map_of_mem (f := (·.1)) e)
        rw [List.lookup_cons, beq_eq_false_iff_ne.mpr hne]
        exact ih hn.2 e
  refine key _ ?_ hm
  rw [List.map_reverse]
  refine List.pairwise_reverse.mpr (List.Pairwise.imp (fun h => Ne.symm h) ?_)
  refine (nd.sublist ?_)
  clear hm key h1 h2 nd
  induction ps generalizing us with
  | nil => exact List.Sublist.refl _
  | cons p r ih =>
    cases us with
    | nil => exact List.nil_sublist _
    | cons v t => exact (ih (us := t)).cons₂ p
theorem su_start {P : Program} {w : World} {K : PySem.W.Frag} {mg : Str → Option Value} {base : Heap} {N ps : List Str} {qual : Str} {scope : Scope} {f cc D : Addr} {cd cl : Value} {cld : Option Addr} {csl : Array (Option Value)} {A : Around} {outer : List Env} {s : Shared} {h₁ : Heap} {tk : Nat} {H : Hp} {E : XK} {us : List Value} {vs : List V}
    (S : SuScope N ps scope) (hcell : K.lookup cc = some ⟨cl, cld, .cell (some (.ref D)), csl⟩) (hd : A.handled = none) (e0 : Env0 P w K mg base A outer s H) (hl : vs.length = ps.length) (r : Vals vs us)
    (hns : h₁.Ns s.heap.objs.size fun x => (ps.zip us).reverse.lookup x) (kp : ∀ b o, s.heap.get? b = some o → h₁.get? b = some o) :
    Inv (suCx P w K mg base N qual scope f cd cc A outer s H E) [] (L2.start N vs) H { s with heap := h₁, toks := tk } := by
  have hpl : ps.length ≤ N.length := by
    have := congrArg List.length S.pre
    rw [List.length_take] at this
    omega
  have hcc : base.get? cc = some ⟨cl, cld, .cell (some (.ref D)), csl⟩ := e0.mod.kin _ _ hcell
  have one : ∀ {y : Str} {c : Addr}, ([("__class__", cc)] : List (Str × Addr)).lookup y = some c → y = "__class__" ∧ c = cc := fun {y c} h => by
    rw [List.lookup_cons] at h
    split at h
    · rename_i e
      exact ⟨beq_iff_eq.mp e, (Option.some.inj h).symm⟩
    · cases h
  have noA : ∀ b : Addr, b ∉ (suCx P w K mg base N qual scope f cd cc A outer s H E).ex := fun b z => (nomatch (show b ∈ ([] : List Addr) from z))
  refine ⟨⟨e0.mod, S.kind, rfl, rfl, Nat.le_refl _, fun y z c h1 h2 => ?_, fun y hy => ?_, fun y c h => ?_, fun _ => hd, Around.frames_deeper e0.frames, .inr ⟨rfl, rfl⟩, fun b z => absurd z (noA b), e0.bs, e0.bsz, fun b _ _ => noA b, fun b z => absurd z (noA b), e0.funs, e0.frf⟩,
    rfl, e0.bare, Un.kept kp, ⟨_, hns, fun i y v h1 h2 h3 => ?_⟩, fun y c h => ?_, e0.hok.fresh (Nat.le_refl _), fun y c h => ?_, fun p hp => (nomatch (show p ∈ ([] : List (Addr × Obj)) from hp)), e0.hok.kept kp, ?_⟩
  · exact (one h1).1.trans (one h2).1.symm
  · have hy : scope.names.lookup y = some .cell ∨ scope.names.lookup y = some .free := hy
    rcases hy with hy | hy
    · exact absurd rfl (S.nocell _ (PySem.mem_of_lookup hy))
    · have e := S.free _ (PySem.mem_of_lookup hy) rfl
      have e : y = "__class__" := e
      subst e
      exact ⟨cc, rfl⟩
  · cases (show false = true from h)
  · have hi : i < vs.length := by
      apply Classical.byContradiction
      intro hi
      unfold L2.start at h2
      rw [List.getElem?_append_right (by simpa using hi), List.getElem?_replicate] at h2
      split at h2 <;> cases h2
    have ha : vs[i]? = some v := by
      unfold L2.start at h2
      rw [List.getElem?_append_left (by simpa using hi), List.getElem?_map] at h2
      cases e : vs[i]? with
      | none => rw [e] at h2; cases h2
      | some a => rw [e] at h2; cases h2; rfl
    obtain ⟨u, hu, rv⟩ := r.get ha
    have hp : ps[i]? = some y := by
      rw [← S.pre, List.getElem?_take_of_lt (by omega)]
      exact h1
    have ndP : ps.Nodup := by
      rw [← S.pre]
      exact S.nd.sublist (List.take_sublist _ _)
    exact ⟨u, rv, .inl ⟨S.par y (List.mem_of_getElem? hp), lookup_rev ndP hp hu⟩⟩
  · obtain ⟨_, e2⟩ := one h
    subst e2
    exact ⟨_, _, kp _ _ (e0.bs _ _ hcc).1, rfl⟩
  · obtain ⟨_, e2⟩ := one h
    subst e2
    exact (e0.bs _ _ hcc).2
  · unfold L2.start
    show _ = N.length
    rw [List.length_append, List.length_map, List.length_replicate]
    omega
/-- what is told of the class D's def: its own cell, its code's file, the class and the next def above it -/
structure SuFacts (P : Program) (K : PySem.W.Frag) (f f2 D C cc cda : Addr) (fd : FuncData) (self : Str) : Prop where
  look : ∃ (oc : Value) (od : Option Addr) (osl : Array (Option Value)), K.lookup f = some ⟨oc, od, .func fd, osl⟩
  head : ∃ ar, (fd.params.posonlyargs ++ fd.params.args).head? = some ar ∧ ar.arg = self
  code : ∃ (ccl : Value) (cdd : Option Addr) (vs : Array Value) (ccs : Array (Option Value)) (file : Str) (tf : Tok), K.lookup cda = some ⟨ccl, cdd, .fields vs, ccs⟩ ∧ vs[2]? = some (.str file tf) ∧ ((P.main.file : Str) == file) = true
  cell : ∃ (cl : Value) (cld : Option Addr) (csl : Array (Option Value)), K.lookup cc = some ⟨cl, cld, .cell (some (.ref D)), csl⟩
  clsD : ∃ cd, PySem.W.clsIn K D = some cd
  sub : PySem.W.mroIn K C (.ref D) = some true
  opq : PySem.W.nsIn K cStatics "thirdparty.any" = some none
  above : PySem.W.ks_superIn K C D "__init__" = some (some (.ref f2))
  ty : PySem.W.typeIn K (.ref f2) = some (.type "function")
  fi : PySem.W.fnIn K f2 = true
  top : (P.main.scope.names.lookup ("super" : Str)).isSome = false
  notC : PySem.W.clsIn K C ≠ none
section
variable {P : Program} {w : World} {K : PySem.W.Frag} {mg : Str → Option Value} {base : Heap}
/-- its promise: first what stands in the arguments, then the def above, then the rest of the body -/
theorem fn_super {f f2 D C cc cda : Addr} {name qual : Str} {params : Arguments} {scope : Scope} {dV kV doc pm ct : Value} {an : Option Addr} {N ps : List Str} {self : Str} {k : Nat} {sp sp2 : Sp} {e1 : Expr} {es : List Expr} {rest : List Stmt} {p0 p1 apos pos spos : Pos}
    (B : SuFacts P K f f2 D C cc cda (PySem.W.ksFn name qual params (.Expr (.Call (.Attribute (.Call (.Name "super" p0) [] [] p1) "__init__" apos) (e1 :: es) [] pos) spos :: rest) scope dV kV doc pm an (.ref cda) ct cc) self)
    (hcd : PySem.W.codeIn K (.ref cda) qual = true) (S : SuScope N ps scope) (h0 : ps[0]? = some self) (ms : mg "super" = none)
    (F2 : FnR P w K mg base CX0 k f2 sp2) (len : ∀ {vs H Q E}, sp vs H Q E → vs.length = ps.length)
    (hbody : ∀ (A : Around) (outer : List Env) (s : Shared) (H : Hp) (vs : List V) (Q : VK) (E : XK), Room k (A.deeper (PySem.W.ksEnv qual scope s.heap.objs.size f (.ref cda) cc)) → sp vs H Q E →
      ∃ ta t x dx fs, PA (suCx P w K mg base N qual scope f (.ref cda) cc A outer s H E) (e1 :: es) ta ∧ PSs (suCx P w K mg base N qual scope f (.ref cda) cc A outer s H E) rest t ∧ vs[0]? = some (.ref x) ∧ H x = some (.ins C dx fs) ∧
        ∀ q, H q = none → ta (L2.start N vs) (upd H q (.met f2 x)) fun us H1 => H1 q = some (.met f2 x) ∧ sp2 (.ref x :: us) H1 (fun _ H2 => t { nx := fun _ H' => Q .non H', rt := Q } (L2.start N vs) H2) E0)
    {pl : Sem Bool} (hev : ∀ env : Env, eval (.Call (.Attribute (.Call (.Name "super" p0) [] [] p1) "__init__" apos) (e1 :: es) [] pos) env = (do
      let ov ← attributeBase (.Call (.Name "super" p0) [] [] p1) "__init__" env (eval (.Call (.Name "super" p0) [] [] p1) env)
      standAt apos.atName
      let (f, first) ← holding [ov] (getMethod ov "__init__" pl)
      callWith pos f first (backTo pos (starEach (e1 :: es) env)) []))
    (hsw : ∀ env : Env, swapsWith (.Call (.Attribute (.Call (.Name "super" p0) [] [] p1) "__init__" apos) (e1 :: es) [] pos) none spos.line env = pure false)
    (hst : ∀ env : Env, starEach (e1 :: es) env = (false, eval e1 env) :: starEach es env) (hpl : ∀ env : Env, ((backTo pos (starEach (e1 :: es) env)).any (·.1) || (backToKw pos (keywordEach [] env)).any (·.1.isNone)) = false) :
    FnOk P w K mg base CX0 (k + 1) f (PySem.W.ksFn name qual params (.Expr (.Call (.Attribute (.Call (.Name "super" p0) [] [] p1) "__init__" apos) (e1 :: es) [] pos) spos :: rest) scope dV kV doc pm an (.ref cda) ct cc) ps sp := by
  obtain ⟨⟨oc, od, osl, lk⟩, ⟨ar, har, hself⟩, ⟨ccl, cdd, cvs, ccs, file, tf, lkc, hvs, hfile⟩, ⟨cl, cld, csl, lkcell⟩, ⟨cdD, hclsD⟩, hsub, hopq, habove, hty, hfi, htop, hnotC⟩ := B
  refine ⟨fun _ _ _ _ h => len h, fun A outer s H args us vs Q E hr e0 hb r hsp => ?_⟩
  have kin : K.In s.heap := e0.mod.kin.keeps fun b o e => (e0.bs b o e).1
  have nl : s.heap.NoLimit := e0.mod.nolimit.keeps fun b o e => (e0.bs b o e).1
  have hl := len hsp
  refine ks_codeAny_call_defAt (fd := PySem.W.ksFn name qual params _ scope dV kV doc pm an (.ref cda) ct cc) (binds := ps.zip us) hr.depth (kin _ _ lk) rfl nl (PySem.W.codeRec_of kin hcd) rfl hb (fun y hy => S.nocell y hy) (fun y hy => S.par y.1 (List.of_mem_zip (a := y.1) (b := y.2) hy).1) (fun h₁ hns kp => ?_) S.co S.gen S.kind
  obtain ⟨ta, t, x, dx, fs, ha, ht, hx0, hx, hq⟩ := hbody A outer s H vs Q E (hr.deeper _) hsp
  have I : Inv (suCx P w K mg base N qual scope f (.ref cda) cc A outer s H E) [] (L2.start N vs) H { s with heap := h₁, toks := s.toks + (ps.zip us).length } := su_start S lkcell hr.hd e0 hl r hns kp
  have kin1 : K.In h₁ := I.kIn
  obtain ⟨oD, hD1, hD2⟩ : ∃ oD, h₁.get? D = some oD ∧ oD.data = .cls cdD := by
    unfold PySem.W.clsIn at hclsD
    split at hclsD
    · rename_i ho
      cases hclsD
      exact ⟨_, kin1 _ _ ho, rfl⟩
    · cases hclsD
  obtain ⟨mA, O, _⟩ := ins_get I.hok hx
  obtain ⟨u0, hu0, ru0⟩ := r.get hx0
  cases (show u0 = Value.ref x from ru0)
  have hsv : (ps.zip us).reverse.lookup ar.arg = some (.ref x) := by
    rw [hself]
    refine lookup_rev ?_ h0 hu0
    rw [← S.pre]
    exact S.nd.sublist (List.take_sublist _ _)
  have hsl : scope.names.lookup ar.arg = some .local := by
    rw [hself]
    exact S.par _ (List.mem_of_getElem? h0)
  have hxC : x ≠ C := by
    intro e
    cases hcl : PySem.W.clsIn K C with
    | none => exact hnotC hcl
    | some cdC =>
      unfold PySem.W.clsIn at hcl
      split at hcl
      · rename_i ho
        have e2 := kin1 _ _ ho
        rw [← e, O.obj] at e2
        cases e2
      · cases hcl
  obtain ⟨mb, hnb, hbb⟩ := I.ok.mod.blt
  refine ks_wpAt_execs_cons (ks_wpAt_Expr_any (ks_wpAt_MethodCall (pl := pl) (ks_wpAt_super_base (env := PySem.W.ksEnv qual scope s.heap.objs.size f (.ref cda) cc) S.sup S.cls (by decide) rfl (kin1 _ _ lk) rfl har rfl (kin1 _ _ lkc) rfl hvs hfile htop ?_) (hev _)) I.quiet (hsw _))
  refine PySem.W.ks_loadName_global S.kind S.sup (PySem.Calls.loadGlobal_builtin (env := PySem.W.ksEnv qual scope s.heap.objs.size f (.ref cda) cc) (I.ok.mod.glob.keeps I.bk) ms (hnb.keeps I.bk) ((hbb _ (by decide +kernel)).trans (by decide +kernel)) ⟨rfl, ?_⟩)
  refine wpAny_loadName_free S.kind S.cls rfl ⟨_, kin1 _ _ lkcell, rfl⟩ ?_
  refine wpAny_loadName_local S.kind hsl hns hsv ?_
  refine ks_wpAny_isType_cls hD1 hD2 ⟨rfl, ?_⟩
  refine ks_wpAny_call_super hD1 hD2 O.obj rfl (fun c e => by cases e) (PySem.W.looks_mroIn kin1 hsub) (fun h2 e2 k2 => ?_)
  have I2 := I.kept (t' := s.toks + (ps.zip us).length) k2
  have kin2 : K.In h2 := I2.kIn
  obtain ⟨of, hof, hofc⟩ : ∃ of, h2.get? f2 = some of ∧ of.cls = .type "function" := by
    have ht' : (K.lookup f2).map (·.cls) = some (.type "function") := hty
    cases z : K.lookup f2 with
    | none => rw [z] at ht'; cases ht'
    | some of => rw [z] at ht'; exact ⟨of, kin2 _ _ z, Option.some.inj ht'⟩
  cases hcl : PySem.W.clsIn K C with
  | none => exact absurd hcl hnotC
  | some cdC =>
    unfold PySem.W.ks_superIn at habove
    rw [hcl] at habove
    refine ks_wpAny_getMethod_super e2 (PySem.W.looks_opaque kin2 hopq) (l₀ := cdC.mro) (fun A Q E s k q => wpAny_bind ((PySem.W.looks_clsIn kin2 hcl) A _ E s k (wpAny_pure q))) rfl kin2 habove hof hofc hxC (by decide) ?_
    have hfree : H h2.objs.size = none := I2.hok.fresh (Nat.le_refl _)
    have I3 := I2.laid (a := h2.objs.size) (o := .met f2 x) (h' := h2.push { cls := .type "method", data := .fields #[.ref f2, .ref x] }) (t' := s.toks + (ps.zip us).length + 1) (fun b u e => Heap.get?_push_of_some _ e) (Nat.le_refl _) (Heap.get?_push_size _ rfl)
    have hx3 := hq _ hfree
    refine callwith_met (X := suCx P w K mg base N qual scope f (.ref cda) cc A outer s H E) (a := x) (hpl _) hfi ?_
    rw [hst]
    refine Calls.evalArgs_plain ?_
    have hrun := ha.run pos [] _ (L2.start N vs) _ _ I3 hx3
    rw [hst] at hrun
    refine wpAny_mono hrun (fun us4 s4 h4 => ?_) fun _ _ z => z.elim
    obtain ⟨vs4, H4, I4, rv4, hm4, hsp4⟩ := h4
    have hr4 : Room k (suCx P w K mg base N qual scope f (.ref cda) cc A outer s H E).A := hr.deeper _
    refine ⟨met_P I4 hm4, wpAny_call (PySem.W.method_call (met_P I4 hm4).1 (codeAny_mono (run_fnR (X := suCx P w K mg base N qual scope f (.ref cda) cc A outer s H E) (vs := V.ref x :: vs4) (us := Value.ref x :: us4) F2 hr4 pass0 I4 (.cons rfl rv4) hsp4) fun r5 s5 h5 => ?_))⟩
    match r5, h5 with
    | .ok (.ret u), h5 =>
      obtain ⟨v5, H5, I5, _, q5⟩ := h5
      refine wpAt_of_wpAny (wpAny_mono (ht.run [] s5 _ H5 _ I5 q5) (fun fl s' hs => ?_) fun _ _ z => z.elim)
      cases fl with
      | ret u =>
        obtain ⟨v, σ', H', J, rv, q⟩ := hs
        exact ⟨v, H', J.os, J.bare, J.base, J.hok, rv, q⟩
      | next =>
        obtain ⟨σ', H', J, q⟩ := hs
        exact ⟨.non, H', J.os, J.bare, J.base, J.hok, rfl, q⟩
      | brk => exact hs.elim fun _ h => h.elim fun _ h => h.2.elim
      | cont => exact hs.elim fun _ h => h.elim fun _ h => h.2.elim
    | .error e, h5 => exact False.elim h5
    | .ok .next, h5 => exact False.elim h5
    | .ok .brk, h5 => exact False.elim h5
    | .ok .cont, h5 => exact False.elim h5
end
end Tl
end S_Su
section S_Bo
namespace Tl
open PySem PySem.Spec PyProof.Rows L2
theorem plain_bool_new : plainId "bool.__new__" = true := by decide +kernel
section
variable {P : Program} {w : World} {A : Around} {E : Value → Shared → Prop} {s : Shared}
theorem code_bool_new {v : Value} {Q₁ : Value → Shared → Prop} (h : wpAny (model P w) A.in1 (truthy v) (fun b s' => Q₁ (.bool b) s') E s) :
    codeAny (model P w) A (.call (.builtin "bool.__new__") ⟨[.type "bool", v], []⟩) (wants Q₁ E) s := by
  refine codeAny_of_tree ?_
  show wpAny _ A.in1 (do checkBuiltinCall "bool.__new__" ⟨[.type "bool", v], []⟩; again (.builtin "bool.__new__" ⟨[.type "bool", v], []⟩)) _ _ s
  refine wpAny_bind (wpAny_of_eq (F.newCall_bool_1 v) (wpAny_pure ⟨plainId_quiet plain_bool_new _, codeAny_builtin F.entry_bool_new ?_⟩))
  rw [Around.under_plainId plain_bool_new _]
  unfold Builtin.«bool.__new__»
  have f1 := F.conv_sub_bool
  obtain ⟨hp, g, d, tk, os⟩ := s
  wp_walk
  show wpAny (model P w) A.in1 (truthy v) _ _ _
  exact wpAny_mono h (fun b s' hb => wpAny_pure hb) fun _ _ e => e
/-- bool(v), by what truth gives -/
theorem call_bool_by {v : Value} {Q : Value → Shared → Prop} (h : wpAny (model P w) A.in1.in1 (truthy v) (fun b s' => Q (.bool b) s') E s) : wpAny (model P w) A (call (.type "bool") [v]) Q E s := by
  refine callType_codes (Q₁ := fun obj s₁ => (∃ b, obj = .bool b) ∧ Q obj s₁) F.called_bool (F.typeCall_bool_1 v) F.entry_object_init (code_bool_new (wpAny_mono h (fun b s' hb => ⟨⟨b, rfl⟩, hb⟩) fun _ _ e => e)) fun obj s₁ hq => ?_
  obtain ⟨⟨b, rfl⟩, hq⟩ := hq
  exact ⟨PySem.typeIs_bool _ _, F.args_object_init_2 _ v, object_init_meets F.called_bool.init.lookup F.called_bool.made F.newNe_bool P w A.in1 _ s₁ ⟨PySem.typeIs_bool _ _, rfl, hq⟩⟩
end
/-- bool(o) of an instance whose class has its own __bool__ at f -/
theorem call_boolO {X : Cx} {CX : CXT} {k : Nat} {C f : Addr} {fd : FuncData} {ps : List Str} {sp : Sp} {E : XK} (F : FnOk X.prog X.w X.K X.mg X.base CX k f fd ps sp) (hr : Room (k + 2) X.A) (hb : Binds X.K fd ps []) (hx : Passes CX X E)
    (hs : PySem.W.findIn X.K (.ref C) "__bool__" = some (some (.ref f))) (hf : PySem.W.isFn X.K (.ref f) = true) :
    CallR X (.type "bool") (fun xs H Q => ∃ a dx fs, xs = [.ref a] ∧ H a = some (.ins C dx fs) ∧ sp [.ref a] H (fun v H1 => ∃ b, v = .bl b ∧ Q (.bl b) H1) E) := by
  intro pins s σ H xs us Q I r h
  obtain ⟨a, dx, fs, rfl, ha, hsp⟩ := h
  obtain rfl := Vals.ref1 r
  obtain ⟨mA, O, _⟩ := ins_get I.hok ha
  obtain ⟨od, J, _⟩ := O.look
  obtain ⟨m, hF⟩ := I.fr
  refine call_bool_by (PySem.W.truthy_K hF I.ok.mod.kin J hs hf ?_)
  have hl := F.len _ _ _ _ hsp
  have r2 : Vals [V.ref a] [Value.ref a] := .cons rfl .nil
  refine wpAny_call (codeAny_mono (F.run X.A.in1.in1 X.stack s H ⟨[.ref a], []⟩ [.ref a] [.ref a] _ E hr.in1.in1 I.env0.in1.in1 (by
    have := hb s [.ref a] I.kIn (by simpa using hl)
    simpa using this) r2 hsp) fun r s' hq => ?_)
  match r, hq with
  | .error e, hq => exact hx pins σ H s e s' I hq
  | .ok (.ret u), hq =>
    obtain ⟨z, H', I', rz, b, ez, q⟩ := I.after hq
    subst ez
    cases rz
    exact ⟨.bl b, H', I', rfl, q⟩
  | .ok .next, hq => exact False.elim hq
  | .ok .brk, hq => exact False.elim hq
  | .ok .cont, hq => exact False.elim hq
end Tl
end S_Bo
section S_Zp
namespace Tl
open PySem PySem.Spec PyProof.Rows L2
/-! ### dict(zip(t, u)) of two tuples -/
/-- what one asks of an iterator at i: it gives v, from S to S'; it ends in S -/
abbrev Gives1 (P : Program) (w : World) (i : Addr) (v : Value) (S S' : Heap → Prop) : Prop := ∀ (A : Around) (E : Value → Shared → Prop) (s : Shared) (Q : Value → Shared → Prop), S s.heap →
  (∀ h', S' h' → Heap.SameBut i s.heap h' → Q v { s with heap := h' }) → wpAny (model P w) A (Builtin.SmallTypes.nextOf (.ref i)) Q E s
abbrev Ends1 (P : Program) (w : World) (i : Addr) (S : Heap → Prop) : Prop := ∀ (A : Around) (E : Value → Shared → Prop) (s : Shared) (Q : Value → Shared → Prop), A.handled = none → S s.heap →
  (∀ h' e, Heap.ExtBut i s.heap h' → (∃ o, h'.get? e = some o ∧ o.cls = .type "StopIteration") → E (.ref e) { s with heap := h' }) → wpAny (model P w) A (Builtin.SmallTypes.nextOf (.ref i)) Q E s
/-- it stays where one object alone changes -/
abbrev Off (b : Addr) (S : Heap → Prop) : Prop := ∀ h h', Heap.SameBut b h h' → S h → S h'
section
variable {P : Program} {w : World} {A : Around} {E : Value → Shared → Prop} {s : Shared}
theorem held_item {z TI TO T i1 i2 : Addr} {f : Bool} {oT : Obj} {x y : Value} {S1 S1' S2 S2' : Heap → Prop} {Q : Value → Shared → Prop} (hz : IsZipHeld s.heap z TI TO T f) (hT : s.heap.get? T = some oT) (hTI : IsPair s.heap TI (.ref i1) (.ref i2)) (z1 : i1 ≠ z) (z2 : i2 ≠ z)
    (n1 : Gives1 P w i1 x S1 S1') (n2 : Gives1 P w i2 y S2 S2') (s1 : S1 s.heap) (s2 : S2 s.heap) (o1 : Off z S1) (o2 : Off z S2) (o21 : Off i1 S2) (o12 : Off i2 S1')
    (hQ : ∀ h', IsZipHeld h' z TI TO T true → S1' h' → S2' h' → h'.objs.size = s.heap.objs.size → (∀ c o, c ≠ z → c ≠ i1 → c ≠ i2 → s.heap.get? c = some o → h'.get? c = some o) →
      Q (.ref h'.objs.size) { s with heap := h'.push { cls := .type "tuple", data := .seq #[x, y] } }) :
    wpAny (model P w) A (Builtin.«zip.__next__» ⟨[.ref z], []⟩) (fun fin s' => ∃ v, fin = .done (.ret v) ∧ Q v s') E s := by
  show wpAny _ _ (field (.ref z) 2 >>= _) _ _ _
  refine wpAny_bind (wpAny_field hz rfl (x := .bool false) rfl (show wpAny _ _ (field (.ref z) 3 >>= _) _ _ _ from wpAny_bind (wpAny_field hz rfl (x := .ref TI) rfl (wpAny_bind (wpAny_seqItems hTI rfl ?_)))))
  show wpAny _ _ (Builtin.SmallTypes.ownedTupleIsFree (.ref z) >>= _) _ _ _
  refine wpAny_bind (wpAny_tupleHeld_zip hz hT fun ha hza sa => ?_)
  simp only [Bool.false_eq_true, if_false]
  refine wpAny_bind ?_
  rw [← Array.forIn_toList]
  simp only [List.forIn_cons, List.forIn_nil]
  refine wpAny_bind (wpAny_bind (wpAny_holding (show wpAny _ _ (Builtin.SmallTypes.nextOf (.ref i1) >>= _) _ _ _ from wpAny_bind (n1 _ _ { s with heap := ha } _ (o1 _ _ sa s1) fun hb sb1 sb => wpAny_pure (wpAny_pure ?_)))))
  refine wpAny_bind (wpAny_bind (wpAny_holding (show wpAny _ _ (Builtin.SmallTypes.nextOf (.ref i2) >>= _) _ _ _ from wpAny_bind (n2 _ _ { s with heap := hb } _ (o21 _ _ sb (o2 _ _ sa s2)) fun hc sc2 sc => wpAny_pure (wpAny_pure (wpAny_pure ?_))))))
  refine (show wpAny _ _ (newTuple [x, y] >>= _) _ _ _ from wpAny_bind (wpAny_newTuple (wpAny_pure ⟨_, rfl, ?_⟩)))
  exact hQ hc (sc.extBut _ _ z2.symm (sb.extBut _ _ z1.symm hza)) (o12 _ _ sc sb1) sc2 (by rw [sc.1, sb.1, sa.1]) fun c o c1 c2 c3 e => sc.extBut _ _ c3 (sb.extBut _ _ c2 (sa.extBut _ _ c1 e))
/-- the first one ends -/
theorem held_end {z TI TO T i1 i2 : Addr} {f : Bool} {oT : Obj} {S1 : Heap → Prop} {Q : Fin → Shared → Prop} (hh : A.handled = none) (hz : IsZipHeld s.heap z TI TO T f) (hT : s.heap.get? T = some oT) (hTI : IsPair s.heap TI (.ref i1) (.ref i2))
    (n1 : Ends1 P w i1 S1) (s1 : S1 s.heap) (o1 : Off z S1) (hE : ∀ h' e, (∀ c o, c ≠ z → c ≠ i1 → s.heap.get? c = some o → h'.get? c = some o) → (∃ o, h'.get? e = some o ∧ o.cls = .type "StopIteration") → E (.ref e) { s with heap := h' }) :
    wpAny (model P w) A (Builtin.«zip.__next__» ⟨[.ref z], []⟩) Q E s := by
  show wpAny _ _ (field (.ref z) 2 >>= _) _ _ _
  refine wpAny_bind (wpAny_field hz rfl (x := .bool false) rfl (show wpAny _ _ (field (.ref z) 3 >>= _) _ _ _ from wpAny_bind (wpAny_field hz rfl (x := .ref TI) rfl (wpAny_bind (wpAny_seqItems hTI rfl ?_)))))
  show wpAny _ _ (Builtin.SmallTypes.ownedTupleIsFree (.ref z) >>= _) _ _ _
  refine wpAny_bind (wpAny_tupleHeld_zip hz hT fun ha hza sa => ?_)
  simp only [Bool.false_eq_true, if_false]
  refine wpAny_bind ?_
  rw [← Array.forIn_toList]
  simp only [List.forIn_cons, List.forIn_nil]
  refine wpAny_bind (wpAny_bind (wpAny_holding (show wpAny _ _ (Builtin.SmallTypes.nextOf (.ref i1) >>= _) _ _ _ from wpAny_bind (n1 _ _ { s with heap := ha } _ hh (o1 _ _ sa s1) fun hb e sb he => ?_))))
  exact hE hb e (fun c o c1 c2 q => sb _ _ c2 (sa.extBut _ _ c1 q)) he
theorem next_by {z : Addr} {Q : Option Value → Shared → Prop} (hTy : s.TypeIs (.ref z) "zip") (h : wpAny (model P w) A.in1 (Builtin.«zip.__next__» ⟨[.ref z], []⟩) (fun fin s' => ∃ v, fin = .done (.ret v) ∧ Q (some v) s') (fun e s' => (∃ a o, e = .ref a ∧ s'.heap.get? a = some o ∧ o.cls = .type "StopIteration") ∧ Q none s') s) :
    wpAny (model P w) A (pyNext (.ref z)) Q E s := by
  unfold pyNext
  refine wpAny_bind (wpAny_attempt (wpAny_callSpecial?_slot (name := Str.ofString "__next__") hTy F.slot_zip_next (wpAny_call_entry F.slot_zip_next hTy F.entry_zip_next (wpAny_mono h (fun fin s' hf => ?_) fun e s' he => ?_) (F.args_zip_next_1 _))))
  · obtain ⟨v, rfl, hq⟩ := hf
    exact ⟨v, rfl, wpAny_pure hq⟩
  · obtain ⟨⟨a, o, rfl, ho, hc⟩, hq⟩ := he
    exact wpAny_bind (wpAny_isInstance (T := "StopIteration") (b := true) ⟨o, ho, hc⟩ isSubtype_stop (wpAny_pure hq))
end
/-- such an iterator of a tuple -/
abbrev TI1 (i l : Addr) (xs : Array Value) (k : Nat) (h : Heap) : Prop := h.IsTupleIter i l k ∧ h.IsTuple l xs
theorem ti_gives {P : Program} {w : World} {i l : Addr} {xs : Array Value} {k : Nat} {v : Value} (hne : l ≠ i) (hv : xs[k]? = some v) : Gives1 P w i v (TI1 i l xs k) (TI1 i l xs (k + 1)) := fun A E s Q hs hq =>
  RZ.nextOf_tuple_item hs.1 hs.2 hv fun h' a b => hq h' ⟨a, hs.2.extBut b.extBut hne⟩ b
theorem ti_ends {P : Program} {w : World} {i l : Addr} {xs : Array Value} {k : Nat} (hv : xs[k]? = none) : Ends1 P w i (TI1 i l xs k) := fun A E s Q hh hs hq => RZ.nextOf_tuple_end hh hs.1 hs.2 hv hq
theorem ti_off {b i l : Addr} {xs : Array Value} {k : Nat} (h1 : i ≠ b) (h2 : l ≠ b) : Off b (TI1 i l xs k) := fun h h' sb hs => ⟨hs.1.extBut sb.extBut h1, hs.2.extBut sb.extBut h2⟩
theorem ti_at {i l : Addr} {xs : Array Value} {k : Nat} {h h' : Heap} (hs : TI1 i l xs k h) (h1 : ∀ o, h.get? i = some o → h'.get? i = some o) (h2 : ∀ o, h.get? l = some o → h'.get? l = some o) : TI1 i l xs k h' := ⟨hs.1.at h1, hs.2.at h2⟩
/-- what stands where the zip of two tuples was made -/
def ZOk (z TI TO i1 i2 l1 l2 : Addr) (xs ys : Array Value) (h : Heap) : Prop := IsZip h z TI TO .none ∧ IsPair h TI (.ref i1) (.ref i2) ∧ (∃ a b, IsPair h TO a b) ∧ TI1 i1 l1 xs 0 h ∧ TI1 i2 l2 ys 0 h
/-- what stands at turn k, while a dict is filled at d -/
def ZSt (z TI TO i1 i2 l1 l2 : Addr) (xs ys : Array Value) (d : Addr) (k : Nat) (h : Heap) : Prop := IsPair h TI (.ref i1) (.ref i2) ∧ TI1 i1 l1 xs k h ∧ TI1 i2 l2 ys k h ∧
  ((IsZip h z TI TO .none ∧ ∃ a b, IsPair h TO a b) ∨ ∃ T f oT, IsZipHeld h z TI TO T f ∧ h.get? T = some oT ∧ T ≠ z ∧ T ≠ i1 ∧ T ≠ i2 ∧ T ≠ d)
theorem pair_arg_zip {P : Program} {w : World} {z TI TO i1 i2 l1 l2 : Addr} (D : ZipApart z TI TO i1 i2 l1 l2) {xs ys : Array Value} (hsz : ys.size = xs.size) :
    PairArg P w "zip" z [z, TI, TO, i1, i2, l1, l2] [z, TO, i1, i2] xs.size (fun i k v => xs[i]? = some k ∧ ys[i]? = some v) (ZOk z TI TO i1 i2 l1 l2 xs ys) := by
  refine { type := fun s ok => ⟨_, ok.1, rfl⟩, notDict := by decide, keep := fun h h' ok hk => ?_, there := fun h ok b hb => ?_, sub := fun b hb => ?_, noKeys := fun A s Q E hA ok h => getAttrOr_miss_zip ok.1 rfl rfl rfl zip_no_keys (by decide +kernel) hA h, iter := fun A s d Q E hA ok hd hdf h => ?_ }
  · obtain ⟨a1, a2, ⟨x, y, a3⟩, a4, a5⟩ := ok
    exact ⟨hk _ _ a1, hk _ _ a2, ⟨x, y, hk _ _ a3⟩, ti_at a4 (fun o => hk _ o) (fun o => hk _ o), ti_at a5 (fun o => hk _ o) fun o => hk _ o⟩
  · obtain ⟨a1, a2, ⟨x, y, a3⟩, ⟨⟨o1, b1, _⟩, ⟨o2, b2, _⟩⟩, ⟨⟨o3, b3, _⟩, ⟨o4, b4, _⟩⟩⟩ := ok
    simp only [List.mem_cons, List.not_mem_nil, or_false] at hb
    rcases hb with e | e | e | e | e | e | e <;> subst e <;> first | exact ⟨_, a1⟩ | exact ⟨_, a2⟩ | exact ⟨_, a3⟩ | exact ⟨_, b1⟩ | exact ⟨_, b2⟩ | exact ⟨_, b3⟩ | exact ⟨_, b4⟩
  · simp only [List.mem_cons, List.not_mem_nil, or_false] at hb ⊢
    rcases hb with e | e | e | e <;> simp [e]
  · obtain ⟨a1, a2, a3, a4, a5⟩ := ok
    simp only [List.mem_cons, List.not_mem_nil, or_false, not_or] at hdf
    obtain ⟨dz, dTI, dTO, di1, di2, dl1, dl2⟩ := hdf
    refine wpAny_pyIter_zip a1 (h z [z, TO, i1, i2] (ZSt z TI TO i1 i2 l1 l2 xs ys d) s.heap s.toks ?_ ⟨a2, a4, a5, .inl ⟨a1, a3⟩⟩ (fun _ _ e => e) fun b hb => .inl hb)
    refine { off := fun hm => ?_, frame := fun i g g' st hk => ?_, item := fun i s1 Q1 E1 hi st hds hQ => ?_, done := fun s1 Q1 E1 st hQ => ?_ }
    · simp only [List.mem_cons, List.not_mem_nil, or_false] at hm
      rcases hm with e | e | e | e
      · exact dz e
      · exact dTO e
      · exact di1 e
      · exact di2 e
    · obtain ⟨b1, b2, b3, b4⟩ := st
      refine ⟨hk _ _ (Ne.symm dTI) b1, ti_at b2 (fun o => hk _ o (Ne.symm di1)) (fun o => hk _ o (Ne.symm dl1)), ti_at b3 (fun o => hk _ o (Ne.symm di2)) (fun o => hk _ o (Ne.symm dl2)), ?_⟩
      rcases b4 with ⟨c1, x, y, c2⟩ | ⟨T, f, oT, c1, c2, c3, c4, c5, c6⟩
      · exact .inl ⟨hk _ _ (Ne.symm dz) c1, x, y, hk _ _ (Ne.symm dTO) c2⟩
      · exact .inr ⟨T, f, oT, hk _ _ (Ne.symm dz) c1, hk _ _ c6 c2, c3, c4, c5, c6⟩
    · obtain ⟨b1, b2, b3, b4⟩ := st
      have ex := Array.getElem?_eq_getElem (xs := xs) hi
      have ey := Array.getElem?_eq_getElem (xs := ys) (i := i) (by omega)
      have lt : ∀ {c : Addr} {o : Obj}, s1.heap.get? c = some o → s1.heap.objs.size ≠ c := fun e => Nat.ne_of_gt (Heap.lt_size e)
      have m1 : s1.heap.objs.size ≠ i1 := b2.1.elim fun _ e => lt e.1
      have m2 : s1.heap.objs.size ≠ i2 := b3.1.elim fun _ e => lt e.1
      rcases b4 with ⟨c1, x, y, c2⟩ | ⟨T, f, oT, c1, c2, c3, c4, c5, c6⟩
      · refine RZ.pyNext_zipT_item D c1 b1 c2 b2.1 b3.1 b2.2 b3.2 ex ey fun g' e1 e2 e3 e4 e5 _ hk => ?_
        refine hQ s1.heap.objs.size _ _ g' s1.toks ⟨ex, ey⟩ (.inl ⟨_, e5, rfl, _, rfl⟩) ⟨hk _ _ D.TIz D.TITO D.TIi1 D.TIi2 b1, ⟨e3, b2.2.at fun o => hk _ o D.l1z D.l1TO D.l1i1 D.l1i2⟩, ⟨e4, b3.2.at fun o => hk _ o D.l2z D.l2TO D.l2i1 D.l2i2⟩, .inr ⟨s1.heap.objs.size, false, _, e1, e5, lt c1, m1, m2, Nat.ne_of_gt hds⟩⟩ fun c o hc e => ?_
        simp only [List.mem_cons, List.not_mem_nil, or_false, not_or] at hc
        exact hk c o hc.1 hc.2.1 hc.2.2.1 hc.2.2.2 e
      · refine next_by ⟨_, c1, rfl⟩ (wpAny_mono (held_item c1 c2 b1 D.i1z D.i2z (ti_gives D.l1i1 ex) (ti_gives D.l2i2 ey) b2 b3 (ti_off D.i1z D.l1z) (ti_off D.i2z D.l2z) (ti_off D.i12.symm D.l2i1) (ti_off D.i12 D.l1i2) fun g' e1 e2 e3 e4 hk => ?_) (fun _ _ q => q) fun _ _ q => q)
        have up : ∀ (c : Addr) (o : Obj), g'.get? c = some o → (g'.push { cls := .type "tuple", data := .seq #[xs[i], ys[i]] }).get? c = some o := fun c o e => Heap.get?_push_of_some _ e
        refine hQ g'.objs.size _ _ _ s1.toks ⟨ex, ey⟩ (.inl ⟨_, Heap.get?_push_size _ rfl, rfl, _, rfl⟩) ⟨up _ _ (hk _ _ D.TIz D.TIi1 D.TIi2 b1), ti_at e2 (up _) (up _), ti_at e3 (up _) (up _), .inr ⟨T, true, oT, up _ _ e1, up _ _ (hk _ _ c3 c4 c5 c2), c3, c4, c5, c6⟩⟩ fun c o hc e => ?_
        simp only [List.mem_cons, List.not_mem_nil, or_false, not_or] at hc
        exact up _ _ (hk c o hc.1 hc.2.2.1 hc.2.2.2 e)
    · obtain ⟨b1, b2, b3, b4⟩ := st
      have ex : xs[xs.size]? = none := Array.getElem?_eq_none (Nat.le_refl _)
      rcases b4 with ⟨c1, x, y, c2⟩ | ⟨T, f, oT, c1, c2, c3, c4, c5, c6⟩
      · refine RZ.pyNext_zipT_end hA D c1 b1 c2 b2.1 b3.1 b2.2 b3.2 (.inl ex) fun g' hk => hQ g' s1.toks fun c o hc e => ?_
        simp only [List.mem_cons, List.not_mem_nil, or_false, not_or] at hc
        exact hk c o hc.1 hc.2.1 hc.2.2.1 hc.2.2.2 e
      · refine next_by ⟨_, c1, rfl⟩ (wpAny_mono (held_end (S1 := TI1 i1 l1 xs xs.size) (Q := fun _ _ => False) hA c1 c2 b1 (ti_ends ex) b2 (ti_off D.i1z D.l1z) fun g' e hk he => ?_) (fun _ _ q => q.elim) fun _ _ q => q)
        obtain ⟨o, ho, hc⟩ := he
        refine ⟨⟨e, o, rfl, ho, hc⟩, hQ g' s1.toks fun c o hc e => ?_⟩
        simp only [List.mem_cons, List.not_mem_nil, or_false, not_or] at hc
        exact hk c o hc.1 hc.2.2.1 e
end Tl
end S_Zp
section S_Ya
namespace Tl
open PySem PySem.Spec PyProof.Rows L2
/-! ### sorted(t) of a tuple of ints -/
section
variable {prog : Program} {w : World} {A : Around} {E : Value → Shared → Prop} {s : Shared}
abbrev heapL (h : Heap) (zs : List Value) : Heap := (h.push (seqObj "list" #[] 0)).update h.objs.size (Obj.mapSeq (· ++ zs.toArray))
theorem collect_tup {l : Addr} {zs : List Value} {Q : List Value → Shared → Prop} (hl : s.heap.IsTuple l zs.toArray) (hz : zs.length ≤ sizeLine)
    (h : Q zs { s with heap := heapL s.heap zs }) : wpAny (model prog w) A (collect (.ref l)) Q E s := by
  obtain ⟨ob, hob, hcl, m, hdt⟩ := id hl
  unfold collect
  refine wpAny_bind (wpAny_runValue (codeAny_builtin entry_proto_collect' ?_))
  show wpAny _ _ (do again (.builtin "list.__iadd__" ⟨[← newList [], .ref l], []⟩)) _ _ s
  refine wpAny_bind (wpAny_newList (wpAny_pure ⟨Code.quiet_builtin _ (by decide +kernel), codeAny_builtin entry_list_iadd' ?_⟩))
  show wpAny _ _ (Builtin.List.listExtendWith (.ref s.heap.objs.size) (.ref l) (.ref s.heap.objs.size)) _ _ { s with heap := s.heap.push (seqObj "list" #[] 0) }
  unfold Builtin.List.listExtendWith
  have hob' : (s.heap.push (seqObj "list" #[] 0)).get? l = some ob := Heap.get?_push_of_some _ hob
  refine wpAny_bind (wpAny_typeOf (T := "tuple") ⟨ob, hob', hcl⟩ ?_)
  have h1 : (Value.type "tuple" == Value.type "list") = false := by rfl
  have h2 : (Value.type "tuple" == Value.type "tuple") = true := by rfl
  rw [if_pos (by rw [h1, h2]; simp)]
  refine wpAny_bind (listItems_at hob' hdt ?_)
  refine wpAny_bind (listItems_at (xs := #[]) (n := 0) (Heap.get?_push_size _ rfl) rfl ?_)
  rw [if_neg (by simp)]
  refine wpAny_bind (listUpdate_at (xs := #[]) (n := 0) (Heap.get?_push_size _ rfl) rfl ?_ (Nat.zero_le _) (by
    show (#[] ++ zs.toArray).size ≤ sizeLine + 1
    simp only [Array.size_append, List.size_toArray, List.length_nil]
    omega))
  refine wpAny_pure ?_
  refine (show wpAny (model prog w) A (load s.heap.objs.size >>= _) Q E { s with heap := heapL s.heap zs } from wpAny_bind (wpAny_load (get?_update_seq (Heap.get?_push_size _ rfl) _) ?_))
  show wpAny _ _ (pure ((#[] : Array Value) ++ zs.toArray).toList) Q E _
  have e : ((#[] : Array Value) ++ zs.toArray).toList = zs := by simp
  rw [e]
  exact wpAny_pure h
theorem sorted_tup {l : Addr} {zs : List Value} {lt : Value → Value → Bool} {Q : Value → Shared → Prop} (O : SrtO.Swo lt) (hl : s.heap.IsTuple l zs.toArray) (hz : zs.length ≤ sizeLine)
    (hS : 2 ≤ zs.length → ∀ (g : Heap) (a : Addr), g.get? a = some (seqObj "list" zs.toArray 0) → (∀ b o, s.heap.get? b = some o → b ≠ a ∧ g.get? b = some o) → SrtO.SortableO prog w A.in1.in1 { s with heap := g } a zs lt)
    (h : ∀ out : List Value, SrtO.Srtd lt out → SrtO.Stb lt out zs → Q (.ref (s.heap.objs.size + 1)) { s with heap := sortedAll s.heap zs out.toArray }) :
    wpAny (model prog w) A (call (.builtin "sorted") [.ref l]) Q E s := by
  refine Calls.call_function_entry kind_sorted plain_sorted entry_sorted (args_sorted1 _) ?_
  unfold Builtin.«sorted»
  refine wpAny_bind (m := checkCount "sorted" 1 1 _) (wpAny_pure (wpAny_bind (collect_tup hl hz (wpAny_bind (wpAny_newList ?_ hz)))))
  have sz : (heapL s.heap zs).objs.size = s.heap.objs.size + 1 := by
    show ((s.heap.push (seqObj "list" #[] 0)).update s.heap.objs.size (Obj.mapSeq (· ++ zs.toArray))).objs.size = _
    rw [Heap.size_update, size_push']
  have at1 : ((heapL s.heap zs).push (seqObj "list" zs.toArray 0)).get? (s.heap.objs.size + 1) = some (seqObj "list" zs.toArray 0) := by
    rw [← sz]
    exact Heap.get?_push_size _ rfl
  have up : ∀ b o, s.heap.get? b = some o → b ≠ s.heap.objs.size + 1 ∧ ((heapL s.heap zs).push (seqObj "list" zs.toArray 0)).get? b = some o := fun b o q => by
    have lt : b < s.heap.objs.size := Heap.lt_size q
    refine ⟨Nat.ne_of_lt (Nat.lt_succ_of_lt lt), Heap.get?_push_of_some _ ?_⟩
    show ((s.heap.push (seqObj "list" #[] 0)).update s.heap.objs.size (Obj.mapSeq (· ++ zs.toArray))).get? b = some o
    rw [Heap.get?_update_ne _ _ _ _ (Nat.ne_of_lt lt)]
    exact Heap.get?_push_of_some _ q
  show wpAny _ _ _ _ _ { s with heap := (heapL s.heap zs).push (seqObj "list" zs.toArray 0) }
  rw [sz]
  refine wpAny_bind (wpAny_holding (wpAny_call_entry slot_list_sort ⟨_, at1, rfl⟩ entry_list_sort (SrtO.list_sort_ord O at1 hz (fun h2 => hS h2 _ _ at1 up) fun out a b => ⟨_, rfl, ?_⟩) (args_list_sort _)))
  exact wpAny_pure ⟨_, rfl, h out a b⟩
end
def rSortedU (K : PySem.W.Frag) : List V → Hp → VK → Prop := fun vs H Q => ∃ (a : Addr) (ns : List Int), vs = [V.ref a] ∧ (SqL K H a (ns.map V.int) ∨ SqT K H a (ns.map V.int)) ∧
  ∀ (ms : List Int) (p : Addr), ms.Perm ns → ms.Pairwise (· ≤ ·) → H p = none → Q (.ref p) (upd H p (.lst (ms.map V.int)))
/-- sorted(xs) of a list or a tuple of ints -/
theorem cr_sortedU {X : Cx} : CallR X (.builtin "sorted") (rSortedU X.K) := by
  intro pins s σ H vs us Q I r h
  obtain ⟨a, ns, rfl, hs | hs, q⟩ := h
  · exact cr_sortedI pins s σ H _ us Q I r ⟨a, ns, rfl, hs, q⟩
  · obtain ⟨its, rv, hl, hz⟩ := I.tuple hs
    rw [Vals.ref1 r]
    have hi := rv.ints
    refine sorted_tup SrtO.swo_int hl (by rw [← rv.length]; exact hz) (fun h2 g b _ _ => SrtO.ints_sortable hi h2) fun out h1 h2 => ?_
    obtain ⟨k1, k2, k3⟩ := SrtO.ints_out hi h1 h2
    obtain ⟨ep, hep⟩ := PyProof.Rows.sortedAll_at s.heap its out.toArray
    have hn : ((out.map SrtO.iv).map V.int).length ≤ sizeLine := by
      rw [List.length_map] at hz ⊢
      rw [k2.length_eq]
      exact hz
    exact ⟨.ref _, upd H (s.heap.objs.size + 1) (.lst ((out.map SrtO.iv).map V.int)), I.laid (t' := s.toks) (fun _ _ => PyProof.Rows.sortedAll_old) (Nat.le_succ _) ⟨hn, out, ep, vals_of_ints k1, hep⟩, rfl, q _ _ k2 k3 (I.hok.fresh (Nat.le_succ _))⟩
/-! ### enumerate(t) of a tuple -/
set_option maxHeartbeats 1000000 in
theorem enum_new1 {v : Value} {o : Obj} {G : Heap → Prop} (B : Begins v o G) :
    Meets (Builtin.«enumerate.__new__» ⟨[.type "enumerate", v], []⟩) (fun _ R z => G z.heap ∧
      R (.ok (.ret (.ref (z.heap.push o).objs.size))) { z with heap := (z.heap.push o).push { cls := .type "enumerate", data := .fields #[.none, .bool false, .ref z.heap.objs.size, rawInt 0, .none, .none] } }) :=
  .of_wp fun pr wo Ar R z h => by
    obtain ⟨hh, ge, dd, tt, oo⟩ := z
    obtain ⟨g1, h⟩ := h
    have sb := sub_enumerate
    have it1 : ∀ {A' : Around} {E : Value → Shared → Prop} {Q : Value → Shared → Prop}, Q (.ref hh.objs.size) ⟨hh.push o, ge, dd, tt, oo⟩ → wpAny (model pr wo) A' (pyIter v) Q E ⟨hh, ge, dd, tt, oo⟩ :=
      fun q => B.iter pr wo _ _ ⟨hh, ge, dd, tt, oo⟩ _ g1 q
    wp_walk using it1
    refine wpAny_stack_any fun st => wpAny_pure ?_
    split
    · rename_i c _ _ _ _ _
      cases (c == Value.type "enumerate") <;> (wp_walk using it1; exact ⟨_, rfl, h⟩)
    · wp_walk using it1
      exact ⟨_, rfl, h⟩
section
variable {prog : Program} {w : World} {A : Around} {E : Value → Shared → Prop} {s : Shared}
theorem enum_of {v : Value} {o : Obj} {G : Heap → Prop} {Q : Value → Shared → Prop} (B : Begins v o G) (g1 : G s.heap)
    (h : ∀ g, IsEnum g (s.heap.objs.size + 1) s.heap.objs.size 0 .none → g.get? s.heap.objs.size = some o → g.objs.size = s.heap.objs.size + 2 →
      (∀ b u, s.heap.get? b = some u → g.get? b = some u) → Q (.ref (s.heap.objs.size + 1)) { s with heap := g }) :
    wpAny (model prog w) A (call (.type "enumerate") [v]) Q E s := by
  refine callType_new F.called_enumerate (by decide) (F.typeCall_enumerate_1 _) (F.newCall_enumerate_1 _) (fun obj => F.args_object_init_2 obj _) F.entry_enumerate_new (enum_new1 B) ⟨g1, ?_⟩
  have z1 : (s.heap.push o).objs.size = s.heap.objs.size + 1 := Heap.size_push ..
  show _ ∧ _
  rw [z1]
  have he : IsEnum ((s.heap.push o).push { cls := .type "enumerate", data := .fields #[.none, .bool false, .ref s.heap.objs.size, rawInt 0, .none, .none] }) (s.heap.objs.size + 1) s.heap.objs.size 0 .none := z1 ▸ Heap.get?_push_size _ rfl
  exact ⟨⟨_, he, rfl⟩, h _ he (Heap.get?_push_of_some _ (Heap.get?_push_size _ B.free)) (by rw [Heap.size_push, z1]) fun b u x => Heap.get?_push_of_some _ (Heap.get?_push_of_some _ x)⟩
end
/-- the tuple at a as it stands at each turn, each item in a new pair -/
def IteT (K : PySem.W.Frag) (a : Addr) : It :=
  ⟨fun i H => ∃ (xs : List V) (x : V), SqT K H a xs ∧ xs[i]? = some x, fun i H v H' => ∃ T x, v = .ref T ∧ H T = none ∧ H' = upd H T (.tup [.int (i : Nat), x]) ∧ ∀ xs, SqT K H a xs → xs[i]? = some x, fun i H => ∃ xs : List V, SqT K H a xs ∧ xs.length ≤ i⟩
theorem tup_ne {h : Heap} {a b l : Addr} {k : Nat} {xs : Array Value} (p : h.IsTuple a xs) (q : h.IsTupleIter b l k) : a ≠ b := fun z => by
  obtain ⟨o, ho, hc, _⟩ := p
  obtain ⟨u, hu, hd, _⟩ := q
  rw [z, hu] at ho
  cases ho
  rw [hd] at hc
  exact absurd (Value.type.inj hc) (by decide)
theorem tup_ne2 {h : Heap} {a e it : Addr} {i : Int} {old : Value} {xs : Array Value} (p : h.IsTuple a xs) (q : IsEnum h e it i old) : a ≠ e := fun z => by
  obtain ⟨o, ho, hc, _⟩ := p
  rw [z, q] at ho
  cases ho
  exact absurd (Value.type.inj hc) (by decide)
abbrev EnT (a e it : Addr) (i : Nat) (h : Heap) : Prop := (∃ old, IsEnum h e it ((i : Nat) : Int) old) ∧ h.IsTupleIter it a i ∧ e ≠ it
theorem turn_enumT {P : Program} {w : World} {K : PySem.W.Frag} {elts : List Expr} {kk : Nat} {tpos : Pos} (a e it : Addr) : Turn P w K (.Tuple elts kk tpos) (IteT K a) [e, it] e (EnT a e it) where
  mem := List.mem_cons_self
  obj := fun i h st b hb => by
    obtain ⟨⟨old, he⟩, ⟨o, ho, hc, hd⟩, _⟩ := st
    rcases List.mem_cons.mp hb with z | z
    · rw [z]; exact ⟨_, he, fun v q => nomatch q⟩
    · rw [List.mem_singleton.mp z]; exact ⟨o, ho, fun v q => by rw [hd] at q; cases q⟩
  keep := fun i h h' st k => ⟨st.1.imp fun old he => k e (by simp) _ he, st.2.1.at fun o q => k it (by simp) o q, st.2.2⟩
  item := by
    intro X hP hw hK hc i pins s σ H E I hf st hg
    subst hP hw hK
    obtain ⟨⟨old, he⟩, hit, hne⟩ := st
    obtain ⟨xs, x, hq, hx⟩ := hg
    obtain ⟨its, rv, p, hz⟩ := I.tuple hq
    obtain ⟨u, hu, ru⟩ := rv.get hx
    have hai : a ≠ it := tup_ne p hit
    have hae : a ≠ e := tup_ne2 p he
    have le : e < s.heap.objs.size := Heap.lt_size he
    have li : it < s.heap.objs.size := by obtain ⟨_, q, _⟩ := hit; exact Heap.lt_size q
    have isz : i < its.toArray.size := by simpa using (List.getElem?_eq_some_iff.mp hu).1
    refine wpAny_pyNext_enum_itemC (Draws.tuple (show X.A.in1.handled = none from I.ok.hd hc) it a hai its.toArray) he ⟨hit, p⟩ isz hne (by simp [hne, Ne.symm hae]) fun y g tk hy ho hst hT hsz hk => ?_
    have ey : y = u := by
      rw [show its.toArray[i]? = its[i]? by simp, hu] at hy
      exact (Option.some.inj hy).symm
    subst ey
    refine ⟨_, rfl, wpAny_letOwnedTupleGo_enum (s := { s with heap := g, toks := tk + 1 }) ho fun g2 he' sb => ?_⟩
    have at2 : g2.get? s.heap.objs.size = some { cls := .type "tuple", data := .seq #[.int i tk, y] } := (sb.2 _ (Nat.ne_of_gt le)).trans hT
    have new : ObjOk X.prog X.w (upd H s.heap.objs.size (.tup [.int (i : Nat), x])) g2 s.heap.objs.size (.tup [.int (i : Nat), x]) :=
      ⟨by show 2 ≤ sizeLine; decide, [.int i tk, y], .cons ⟨_, rfl⟩ (.cons ru .nil), ⟨_, at2, rfl, _, rfl⟩⟩
    have old2 : ∀ b ob, b ∉ [e, it] → s.heap.get? b = some ob → g2.get? b = some ob := fun b ob hb q =>
      (sb.2 b fun z => hb (by simp [z])).trans (hk b ob (fun z => hb (by simp [z])) (fun z => hb (by simp [z])) q)
    have I1 : Inv X pins σ (upd H s.heap.objs.size (.tup [.int (i : Nat), x])) { s with heap := g2, toks := tk + 1 } := I.turnedNew (ch := [e, it]) old2 hf (Nat.le_refl _) new
    refine ⟨.ref s.heap.objs.size, _, I1, rfl, ⟨_, x, rfl, I.hok.fresh (Nat.le_refl _), rfl, fun ys hy => by rw [I.tuple_inj hy hq]; exact hx⟩, ⟨⟨y, ?_⟩, hst.1.at fun o q => (sb.2 it (Ne.symm hne)).trans q, hne⟩, fun b hb => ?_⟩
    · show IsEnum g2 e it ((i + 1 : Nat) : Int) y
      rw [show ((i + 1 : Nat) : Int) = (i : Int) + 1 by omega]
      exact he'
    · have lb : b < s.heap.objs.size := by
        rcases List.mem_cons.mp hb with z | z
        · rw [z]; exact le
        · rw [List.mem_singleton.mp z]; exact li
      rw [upd_ne (Nat.ne_of_lt lb)]
      exact (hf b hb).1
  done := by
    intro X hP hw hK hc i pins s σ H E I hf st hg
    subst hP hw hK
    obtain ⟨⟨old, he⟩, hit, hne⟩ := st
    obtain ⟨xs, hq, hx⟩ := hg
    obtain ⟨its, rv, p, hz⟩ := I.tuple hq
    obtain ⟨f0, f1, f2, f3, f4, f5⟩ := hf it (by simp)
    have hn := rv.length
    have hai : a ≠ it := tup_ne p hit
    have D : Draws X.prog X.w X.A.in1 it [it, a] i (fun _ _ => False) (fun j h => h.IsTupleIter it a j ∧ h.IsTuple a its.toArray ∧ j = i) :=
      { live := fun _ _ st => let ⟨o, ho, _⟩ := st.1; ⟨o, ho⟩
        frame := fun _ _ _ st hk => ⟨st.1.at fun o e => hk it (by simp) o e, st.2.1.at fun o e => hk a (by simp) o e, st.2.2⟩
        item := fun j s Q E hj st _ => absurd st.2.2 (Nat.ne_of_lt hj)
        done := fun s Q E st hE => RZ.nextOf_tuple_end (show X.A.in1.handled = none from I.ok.hd hc) st.1 st.2.1 (by simp; omega) hE }
    exact wpAny_pyNext_enum_endD D he ⟨hit, p, rfl⟩ fun g eb => ⟨rfl, I.turned (t' := s.toks) (fun b o hb q => eb b o hb q) f0 f1 f3 f4 f5⟩
  self := fun A i s Q E st h => let ⟨⟨_, he⟩, _⟩ := st; wpAny_pyIter_enum he h
def iEnumT (K : PySem.W.Frag) (ta : TA) : TI := fun σ H R => ta σ H fun vs H1 => ∃ a xs, vs = [.ref a] ∧ SqT K H1 a xs ∧ R (IteT K a) H1
theorem pi_enumT {X : Cx} {e : Expr} {ta : TA} {p pos tpos : Pos} {elts : List Expr} {kk : Nat} (hg : Gl X "enumerate") (hm : X.mg "enumerate" = none) (ha : PA X [e] ta) (hs : starEach [e] X.env = [(false, eval e X.env)] := by rfl) :
    PI X (.Tuple elts kk tpos) (.Call (.Name "enumerate" p) [e] [] pos) (iEnumT X.K ta) := by
  refine ⟨fun pins s σ H R I h => ?_⟩
  refine Call_ (ld_blt I hg hm boot_enumerate (PyProof.Rows.callWith_type1 (thn (ha.run pos pins s σ H _ I h) fun us s1 hv => ?_) hs rfl))
  obtain ⟨vs, H1, I1, r1, a, xs, rfl, hq, q⟩ := hv
  obtain rfl := Vals.ref1 r1
  obtain ⟨its, rv, p', hz⟩ := I1.tuple hq
  refine enum_of (begins_tuple a its.toArray) p' fun g he hit hsz hk => wpAny_pyIter_enum he ?_
  refine ⟨s1.heap.objs.size + 1, [s1.heap.objs.size + 1, s1.heap.objs.size], _, _, H1, rfl, I1.kept (t' := s1.toks) hk, turn_enumT a (s1.heap.objs.size + 1) s1.heap.objs.size, ⟨⟨.none, he⟩, ⟨_, hit, rfl, rfl⟩, Nat.succ_ne_self _⟩, fun b hb => ?_, q⟩
  have le : s1.heap.objs.size ≤ b := by
    rcases List.mem_cons.mp hb with z | z
    · rw [z]; exact Nat.le_add_right _ _
    · rw [List.mem_singleton.mp z]; exact Nat.le_refl _
  exact I1.fpOk le (I1.hok.fresh le)
end Tl
end S_Ya
section S_Yw
namespace Tl
open PySem PySem.Spec PyProof.Rows L2
open Evl
/-! ### walks that only lay new objects -/
/-- C holds what came between A and B -/
abbrev Since (A B C : Hp) : Prop := ∀ a o, A a = none → B a = some o → C a = some o
/-- what a for walks: n turns, told by Y, as long as what stood at H stays, and what is new -/
def EvI (wi : TI) (σ : L2.St) (H : Hp) (n : Nat) (Y : Nat → Hp → V → Hp → Prop) : Prop := ∀ H1, Ex H H1 → ∀ R : It → Hp → Prop,
  (∀ (J : It) (G : Hp → Prop) H2, Ex H1 H2 → Walk J n G Y → (∀ A, Ex H A → Since H1 H2 A → G A) → R J H2) → wi σ H1 R
/-- a value of which R holds, in each heap that has what stood at H and what is new -/
def EvN (te : TE) (σ : L2.St) (H : Hp) (R : V → Hp → Prop) : Prop := ∀ H1, Ex H H1 → ∀ Q : VK, (∀ v H2, Ex H1 H2 → (∀ H3, Ex H H3 → Since H1 H2 H3 → R v H3) → Q v H2) → te σ H1 Q
/-- a new list: what it holds is told by L -/
def EvNL (te : TE) (σ : L2.St) (H : Hp) (L : List V → Hp → Prop) : Prop := ∀ H1, Ex H H1 → ∀ Q : VK,
  (∀ p xs H2, H1 p = none → Ex H1 H2 → H2 p = some (.lst xs) → (∀ H3, Ex H H3 → (∀ a o, a ≠ p → H1 a = none → H2 a = some o → H3 a = some o) → L xs H3) → Q (.ref p) H2) → te σ H1 Q
/-- the target's stores -/
def Aims (g : TG) (n : Nat) (Y : Nat → Hp → V → Hp → Prop) (s : Nat → L2.St → L2.St) : Prop := ∀ i σ H x H', i < n → Y i H x H' → Ex H H' ∧ ∀ Q : L2.St → Hp → Prop, Q (s i σ) H' → g x σ H' Q
theorem aims_at {xs : List V} {j : Nat} : Aims (gName j) xs.length (YAt xs) (fun i σ => σ.set j (some (xs.getD i .non))) := fun i σ H x H' hi y => by
  obtain ⟨rfl, hx⟩ := y
  obtain rfl : xs.getD i .non = x := by rw [List.getD_eq_getElem?_getD, hx]; rfl
  exact ⟨Ex.refl _, fun Q q => q⟩
theorem aims_fn {f : Nat → V} {n j : Nat} : Aims (gName j) n (YFn f) (fun i σ => σ.set j (some (f i))) := fun i σ H x H' hi y => by
  obtain ⟨rfl, rfl⟩ := y
  exact ⟨Ex.refl _, fun Q q => q⟩
/-- a pair of the turn's number and the item -/
theorem aims_enum {K : PySem.W.Frag} {xs : List V} {j1 j2 : Nat} : Aims (gTup K 2 (gCons (gName j1) (gCons (gName j2) gNil))) xs.length (YPair (fun i => some (.int (i : Nat))) (fun i => xs[i]?))
    (fun i σ => (σ.set j1 (some (.int (i : Nat)))).set j2 (some (xs.getD i .non))) := fun i σ H v H' hi y => by
  obtain ⟨T, x, y, rfl, hT, rfl, h1, h2⟩ := y
  cases h1
  have h3 : xs[i]? = some y := h2
  obtain rfl : xs.getD i .non = y := by rw [List.getD_eq_getElem?_getD, h3]; rfl
  exact ⟨Ex.new hT, fun Q q => ⟨T, _, rfl, st_of upd_same, rfl, _, _, rfl, _, _, rfl, rfl, q⟩⟩
section
variable {K : PySem.W.Frag} {σ : L2.St} {H : Hp}
theorem ei_list {a : Addr} {xs : List V} {tl : TE} (h : Ev tl σ H (.ref a)) (hx : SqL K H a xs) : EvI (iList K tl) σ H xs.length (YAt xs) := fun H1 e R k =>
  h H1 e _ fun H2 e2 => ⟨a, rfl, ⟨xs, ex_l (e.trans e2) hx⟩, k _ _ H2 e2 walk_list fun A ab _ => ex_l ab hx⟩
theorem ei_listN {xs : List V} {tl : TE} (h : EvL tl σ H xs) : EvI (iList K tl) σ H xs.length (YAt xs) := fun H1 e R k =>
  h H1 e _ fun a H2 ha e2 hx => ⟨a, rfl, ⟨xs, sq_of hx⟩, k _ _ H2 e2 walk_list fun A _ ab => sq_of (ab _ _ ha hx)⟩
theorem ei_tup {a : Addr} {xs : List V} {tl : TE} (h : Ev tl σ H (.ref a)) (hx : SqT K H a xs) : EvI (iTup K tl) σ H xs.length (YAt xs) := fun H1 e R k =>
  h H1 e _ fun H2 e2 => ⟨a, rfl, ⟨xs, ex_t (e.trans e2) hx⟩, k _ _ H2 e2 walk_tup fun A ab _ => ex_t ab hx⟩
theorem walk_enumT {a : Addr} {xs : List V} : Walk (IteT K a) xs.length (fun H => SqT K H a xs) (YPair (fun i => some (.int (i : Nat))) (fun i => xs[i]?)) := by
  refine ⟨fun i _ hi q => ⟨xs, xs[i], q, by simp [hi]⟩, fun _ q => ⟨xs, q, Nat.le_refl _⟩, fun i H v H' _ q y => ?_⟩
  obtain ⟨T, x, h1, h2, h3, h4⟩ := y
  exact ⟨T, .int (i : Nat), x, h1, h2, h3, rfl, h4 xs q⟩
theorem ei_enum {a : Addr} {xs : List V} {ta : TA} (h : EvA ta σ H [.ref a]) (hx : SqL K H a xs) : EvI (iEnum K ta) σ H xs.length (YPair (fun i => some (.int (i : Nat))) (fun i => xs[i]?)) := fun H1 e R k =>
  h H1 e _ fun H2 e2 => ⟨a, xs, rfl, ex_l (e.trans e2) hx, k _ _ H2 e2 walk_enum fun A ab _ => ex_l ab hx⟩
theorem ei_enumT {a : Addr} {xs : List V} {ta : TA} (h : EvA ta σ H [.ref a]) (hx : SqT K H a xs) : EvI (iEnumT K ta) σ H xs.length (YPair (fun i => some (.int (i : Nat))) (fun i => xs[i]?)) := fun H1 e R k =>
  h H1 e _ fun H2 e2 => ⟨a, xs, rfl, ex_t (e.trans e2) hx, k _ _ H2 e2 walk_enumT fun A ab _ => ex_t ab hx⟩
theorem ei_rng1 {ta : TA} {j : Int} (h : EvA ta σ H [.int j]) (h0 : 0 ≤ j) (h1 : j ≤ 100000) : EvI (iRng1 ta) σ H j.toNat (YFn fun i => .int (0 + i)) := fun H1 e R k =>
  h H1 e _ fun H2 e2 => ⟨j, rfl, by omega, by omega, k _ _ H2 e2 walk_range fun _ _ _ => trivial⟩
theorem ei_rng2 {ta : TA} {i j : Int} (h : EvA ta σ H [.int i, .int j]) (h0 : -100000 ≤ i ∧ i ≤ 100000) (h1 : -100000 ≤ j ∧ j ≤ 100000) : EvI (iRng2 ta) σ H (j - i).toNat (YFn fun k => .int (i + k)) := fun H1 e R k =>
  h H1 e _ fun H2 e2 => ⟨i, j, rfl, ⟨by omega, by omega, by omega, by omega⟩, k _ _ H2 e2 walk_range fun _ _ _ => trivial⟩
theorem en_v {te : TE} {v : V} (h : Ev te σ H v) : EvN te σ H (fun u _ => u = v) := fun H1 e Q q => h H1 e Q fun H2 e2 => q v H2 e2 fun _ _ _ => rfl
theorem en_l {te : TE} {xs : List V} (h : EvL te σ H xs) : EvN te σ H (fun u H' => ∃ a, u = .ref a ∧ H' a = some (.lst xs)) := fun H1 e Q q => h H1 e Q fun p H2 hp e2 h2 => q _ H2 e2 fun H3 _ s => ⟨p, rfl, s _ _ hp h2⟩
theorem en_u {te : TE} {xs : List V} (h : ∀ H1, Ex H H1 → ∀ Q : VK, (∀ p H2, H1 p = none → Ex H1 H2 → H2 p = some (.tup xs) → Q (.ref p) H2) → te σ H1 Q) : EvN te σ H (fun u H' => ∃ a, u = .ref a ∧ H' a = some (.tup xs)) := fun H1 e Q q => h H1 e Q fun p H2 hp e2 h2 => q _ H2 e2 fun H3 _ s => ⟨p, rfl, s _ _ hp h2⟩
theorem en_nl {te : TE} {L : List V → Hp → Prop} (h : EvNL te σ H L) : EvN te σ H (fun u H' => ∃ a xs, u = .ref a ∧ H' a = some (.lst xs) ∧ L xs H') := fun H1 e Q q => h H1 e Q fun p xs H2 hp e2 h2 hL => q _ H2 e2 fun H3 e3 s => ⟨p, xs, rfl, s _ _ hp h2, hL H3 e3 fun a o _ ha hb => s a o ha hb⟩
/-- what the comprehension's list holds: what R tells, turn by turn -/
def Holds (R : Nat → V → Hp → Prop) (n : Nat) (xs : List V) (H : Hp) : Prop := xs.length = n ∧ ∀ i v, xs[i]? = some v → R i v H
theorem snoc_at {xs : List V} {v u : V} {i : Nat} (h : (xs ++ [v])[i]? = some u) : (i < xs.length ∧ xs[i]? = some u) ∨ (i = xs.length ∧ v = u) := by
  rcases Nat.lt_or_ge i xs.length with hi | hi
  · rw [List.getElem?_append_left hi] at h
    exact .inl ⟨hi, h⟩
  · rw [List.getElem?_append_right hi] at h
    have e : i - xs.length = 0 := by
      have := (List.getElem?_eq_some_iff.mp h).1
      simp at this
      omega
    rw [e] at h
    cases h
    exact .inr ⟨by omega, rfl⟩
theorem en_lc {wi : TI} {g : TG} {te : TE} {vs : List Nat} {n : Nat} {Y : Nat → Hp → V → Hp → Prop} {s : Nat → L2.St → L2.St} (hw : EvI wi σ H n Y) (aim : Aims g n Y s) (hs : ∀ i, wipe (s i (wipe σ vs)) vs = wipe σ vs) (hn : n ≤ 90000)
    (R : Nat → V → Hp → Prop) (he : ∀ i, i < n → EvN te (s i (wipe σ vs)) H (R i)) : EvNL (tLc wi g tYes te vs) σ H (Holds R n) := fun H1 e Q q =>
  hw H1 e _ fun J G H2 e2 w sG D hD => lc_it w (fun i H' => Ex H2 H' ∧ ∃ acc, H' D = some (.lst acc) ∧ acc.length = i ∧ ∀ k v, acc[k]? = some v → ∀ H3, Ex H H3 → (∀ a o, a ≠ D → H1 a = none → H' a = some o → H3 a = some o) → R k v H3)
    ⟨Ex.new hD, [], upd_same, rfl, fun i v h => by simp at h⟩ (fun i H' _ p => sG H' ((e.trans e2).trans p.1) fun a o _ ha => p.1 _ _ ha)
    (fun i x A B hi p y => by
      obtain ⟨p1, acc, p3, p4, p5⟩ := p
      obtain ⟨ab, k⟩ := aim i (wipe σ vs) A x B hi y
      refine k _ ⟨hs i, ?_⟩
      show te (s i (wipe σ vs)) B _
      have hHB : Ex H B := ((e.trans e2).trans p1).trans ab
      refine he i hi B hHB _ fun v C eC hv => ⟨acc, eC _ _ (ab _ _ p3), sz_lt (by omega), ?_, acc ++ [v], upd_same, by rw [List.length_append, p4] <;> rfl, fun k u hk H3 h3 keep => ?_⟩
      · exact ((p1.trans ab).trans eC).mut hD
      · have at4 : ∀ a o, a ≠ D → H1 a = none → C a = some o → H3 a = some o := fun a o hne hn hc => keep a o hne hn (by rw [upd_ne hne]; exact hc)
        rcases snoc_at hk with ⟨hlt, hk⟩ | ⟨rfl, rfl⟩
        · exact p5 k u hk H3 h3 fun a o hne hn ha => at4 a o hne hn (eC _ _ (ab _ _ ha))
        · rw [p4]
          refine hv H3 h3 fun a o hb hc => at4 a o (fun z => ?_) (fresh_back ((e2.trans p1).trans ab) hb) hc
          rw [z, ab _ _ p3] at hb
          cases hb)
    (fun H' p => by
      obtain ⟨p1, acc, p3, p4, p5⟩ := p
      exact q D acc H' (fresh_back e2 hD) (e2.trans p1) p3 fun H3 h3 keep => ⟨p4, fun i v hv => p5 i v hv H3 h3 keep⟩)
/-- two walks, one in another: what the list holds is told by the row of b's -/
def Row2 {β : Type} (Rb : β → V → Hp → Prop) (bs : List β) (xs : List V) (H : Hp) : Prop := xs.length = bs.length ∧ ∀ (k : Nat) (b : β) (v : V), bs[k]? = some b → xs[k]? = some v → Rb b v H
def els {β : Type} (m : Nat → Nat) (f : Nat → Nat → Bool) (b : Nat → Nat → β) (i : Nat) : List β := ((List.range (m i)).filter (f i)).map (b i)
def rows {β : Type} (m : Nat → Nat) (f : Nat → Nat → Bool) (b : Nat → Nat → β) (n : Nat) : List β := (List.range n).flatMap (els m f b)
theorem rows_succ {β : Type} {m : Nat → Nat} {f : Nat → Nat → Bool} {b : Nat → Nat → β} {n : Nat} : rows m f b (n + 1) = rows m f b n ++ els m f b n := by
  unfold rows
  rw [List.range_succ, List.flatMap_append]
  simp
def part {β : Type} (f : Nat → Bool) (b : Nat → β) (j : Nat) : List β := ((List.range j).filter f).map b
theorem part_succ {β : Type} {f : Nat → Bool} {b : Nat → β} {j : Nat} : part f b (j + 1) = part f b j ++ (if f j = true then [b j] else []) := by
  unfold part
  rw [List.range_succ, List.filter_append, List.map_append]
  congr 1
  cases h : f j <;> simp [h]
theorem part_le {β : Type} {f : Nat → Bool} {b : Nat → β} {j k : Nat} (h : j ≤ k) : (part f b j).length ≤ (part f b k).length := by
  induction k with
  | zero => rw [Nat.le_zero.mp h] <;> exact Nat.le_refl _
  | succ k ih =>
    rcases Nat.lt_or_ge k j with h2 | h2
    · rw [show j = k + 1 by omega] <;> exact Nat.le_refl _
    · rw [part_succ, List.length_append]
      exact Nat.le_trans (ih h2) (Nat.le_add_right _ _)
theorem rows_le {β : Type} {m : Nat → Nat} {f : Nat → Nat → Bool} {b : Nat → Nat → β} {j k : Nat} (h : j ≤ k) : (rows m f b j).length ≤ (rows m f b k).length := by
  induction k with
  | zero => rw [Nat.le_zero.mp h] <;> exact Nat.le_refl _
  | succ k ih =>
    rcases Nat.lt_or_ge k j with h2 | h2
    · rw [show j = k + 1 by omega] <;> exact Nat.le_refl _
    · rw [rows_succ, List.length_append]
      exact Nat.le_trans (ih h2) (Nat.le_add_right _ _)
theorem en_lc2 {β : Type} {wi wi1 : TI} {g g1 : TG} {tt1 : TT} {te : TE} {vs vs1 : List Nat} {n : Nat} {m : Nat → Nat} {Y : Nat → Hp → V → Hp → Prop} {Y1 : Nat → Nat → Hp → V → Hp → Prop} {s : Nat → L2.St → L2.St} {s1 : Nat → Nat → L2.St → L2.St}
    (hw : EvI wi σ H n Y) (aim : Aims g n Y s) (hs : ∀ i, wipe (s i (wipe σ vs)) vs = wipe σ vs)
    (hw1 : ∀ i, i < n → EvI wi1 (s i (wipe σ vs)) H (m i) (Y1 i)) (aim1 : ∀ i, Aims g1 (m i) (Y1 i) (s1 i)) (hs1 : ∀ i j, wipe (s1 i j (wipe (s i (wipe σ vs)) vs1)) vs1 = wipe (s i (wipe σ vs)) vs1)
    (f : Nat → Nat → Bool) (b : Nat → Nat → β) (Rb : β → V → Hp → Prop) (ht : ∀ i j, i < n → j < m i → EvT tt1 (s1 i j (wipe (s i (wipe σ vs)) vs1)) H (f i j))
    (he : ∀ i j, i < n → j < m i → f i j = true → EvN te (s1 i j (wipe (s i (wipe σ vs)) vs1)) H (Rb (b i j))) (hz : (rows m f b n).length ≤ 90000) :
    EvNL (tLc2 wi g tYes wi1 g1 tt1 te vs vs1) σ H (Row2 Rb (rows m f b n)) := fun H1 e Q q => by
  refine hw H1 e _ fun J G H2 e2 w sG D hD => ?_
  -- what stands while ds are made
  let St : List β → Hp → Prop := fun ds H' => Ex H2 H' ∧ ∃ acc, H' D = some (.lst acc) ∧ acc.length = ds.length ∧ ∀ (k : Nat) (d : β) (v : V), ds[k]? = some d → acc[k]? = some v → ∀ H3, Ex H H3 → (∀ a o, a ≠ D → H1 a = none → H' a = some o → H3 a = some o) → Rb d v H3
  have grow : ∀ {ds : List β} {A B : Hp}, St ds A → Ex A B → St ds B := fun {ds A B} p ab => by
    obtain ⟨p1, acc, p3, p4, p5⟩ := p
    exact ⟨p1.trans ab, acc, ab _ _ p3, p4, fun k d v h1 h2 H3 h3 keep => p5 k d v h1 h2 H3 h3 fun a o hne hn ha => keep a o hne hn (ab _ _ ha)⟩
  refine ⟨fun i k H' => k = n - i ∧ i ≤ n ∧ St (rows m f b i) H', ⟨n, by simp, Nat.zero_le _, Ex.new hD, [], upd_same, rfl, fun k d v h => by simp [rows] at h⟩, ?_⟩
  rintro i k A ⟨rfl, hin, p⟩
  have gA : G A := sG A ((e.trans e2).trans p.1) fun a o _ ha => p.1 _ _ ha
  by_cases hi : i < n
  · refine .inr ⟨w.goes i A hi gA, St (rows m f b (i + 1)), fun H' p' => ⟨n - (i + 1), by omega, rfl, hi, p'⟩, fun x B yl => ?_⟩
    have y := w.yields i A x B hi gA yl
    obtain ⟨ab, k⟩ := aim i (wipe σ vs) A x B hi y
    refine k _ ⟨hs i, ?_⟩
    have pB := grow p ab
    refine hw1 i hi B (((e.trans e2).trans p.1).trans ab) _ fun J1 G1 C bC w1 sG1 => ?_
    refine ⟨fun j k H' => k = m i - j ∧ j ≤ m i ∧ St (rows m f b i ++ part (f i) (b i) j) H' ∧ Since B C H', ⟨m i, by simp, Nat.zero_le _, ?_, fun _ _ _ h => h⟩, ?_⟩
    · simpa [part] using grow pB bC
    · rintro j k H' ⟨rfl, hj, pj, sj⟩
      have gj : G1 H' := sG1 H' ((e.trans e2).trans pj.1) sj
      by_cases hlt : j < m i
      · refine .inr ⟨w1.goes j H' hlt gj, fun H4 => St (rows m f b i ++ part (f i) (b i) (j + 1)) H4 ∧ Since B C H4, fun H4 p4 => ⟨m i - (j + 1), by omega, rfl, hlt, p4⟩, fun x1 B1 y1 => ?_⟩
        obtain ⟨ab1, k1⟩ := aim1 i j (wipe (s i (wipe σ vs)) vs1) H' x1 B1 hlt (w1.yields j H' x1 B1 hlt gj y1)
        refine k1 _ ⟨hs1 i j, ?_⟩
        have pB1 := grow pj ab1
        refine ht i j hi hlt B1 ((e.trans e2).trans pB1.1) _ fun H6 e6 => ?_
        have p6 := grow pB1 e6
        have s6 : Since B C H6 := fun a o ha hc => e6 _ _ (ab1 _ _ (sj a o ha hc))
        rw [part_succ]
        cases hf : f i j with
        | false =>
          show St _ H6 ∧ Since B C H6
          rw [if_neg (by decide), List.append_nil]
          exact ⟨p6, s6⟩
        | true =>
          refine he i j hi hlt hf H6 ((e.trans e2).trans p6.1) _ fun v C6 eC hv => ?_
          obtain ⟨q1, acc, q3, q4, q5⟩ := p6
          have small : acc.length < 90000 := by
            rw [q4, List.length_append]
            have a1 : (rows m f b (i + 1)).length ≤ 90000 := Nat.le_trans (rows_le hi) hz
            rw [rows_succ, List.length_append] at a1
            have a2 : (part (f i) (b i) (j + 1)).length ≤ (els m f b i).length := part_le (f := f i) (b := b i) (show j + 1 ≤ m i from hlt)
            rw [part_succ, hf, List.length_append] at a2
            simp at a2
            omega
          refine ⟨acc, eC _ _ q3, sz_lt (by omega), ⟨(q1.trans eC).mut hD, acc ++ [v], upd_same, ?_, ?_⟩, ?_⟩
          · rw [if_pos rfl, ← List.append_assoc, List.length_append, List.length_append, q4, List.length_append]
            rfl
          · intro k d u hd hu H3 h3 keep
            have at4 : ∀ a o, a ≠ D → H1 a = none → C6 a = some o → H3 a = some o := fun a o hne hn hc => keep a o hne hn (by rw [upd_ne hne]; exact hc)
            rw [if_pos rfl, ← List.append_assoc] at hd
            rcases snoc_at hu with ⟨hlt2, hu2⟩ | ⟨rfl, rfl⟩
            · rw [q4] at hlt2
              rw [List.getElem?_append_left hlt2] at hd
              exact q5 k d u hd hu2 H3 h3 fun a o hne hn ha => at4 a o hne hn (eC _ _ ha)
            · rw [q4, List.getElem?_append_right (Nat.le_refl _), Nat.sub_self] at hd
              cases hd
              refine hv H3 h3 fun a o hb hc => at4 a o (fun z => ?_) (fresh_back (e2.trans q1) hb) hc
              rw [z, q3] at hb
              cases hb
          · intro a o ha hc
            rw [upd_ne (fun z => ?_)]
            · exact eC _ _ (s6 a o ha hc)
            · obtain ⟨acc0, r3, _⟩ := pB.2
              rw [z, r3] at ha
              cases ha
      · have ej : j = m i := by omega
        subst ej
        refine .inl ⟨w1.stops H' gj, ?_⟩
        show St (rows m f b (i + 1)) H'
        rw [rows_succ]
        exact pj
  · have ei : i = n := by omega
    subst ei
    refine .inl ⟨w.stops A gA, ?_⟩
    obtain ⟨p1, acc, p3, p4, p5⟩ := p
    exact q D acc A (fresh_back e2 hD) (e2.trans p1) p3 fun H3 h3 keep => ⟨p4, fun k d v h1 h2 => p5 k d v h1 h2 H3 h3 keep⟩
/-- the dict of the first keys, each with True -/
def dOf (kf : Nat → Int) : Nat → List (L2.Key × V)
  | 0 => []
  | i + 1 => putK (dOf kf i) (.inl (kf i)) (.bl true)
theorem dOf_len (kf : Nat → Int) : ∀ n, (dOf kf n).length ≤ n
  | 0 => Nat.le_refl _
  | n + 1 => Nat.le_trans (length_putK _ _ _) (Nat.succ_le_succ (dOf_len kf n))
theorem dOf_at (kf : Nat → Int) (x : Int) : ∀ n, (valV (dOf kf n) (.inl x)).isSome = true ↔ ∃ i, i < n ∧ kf i = x
  | 0 => ⟨fun h => (by cases h), fun ⟨i, h, _⟩ => absurd h (Nat.not_lt_zero i)⟩
  | n + 1 => by
    show (valV (putK (dOf kf n) (.inl (kf n)) (.bl true)) (.inl x)).isSome = true ↔ _
    rw [valV_put]
    by_cases e : (Sum.inl x : L2.Key) = .inl (kf n)
    · rw [if_pos e]
      exact ⟨fun _ => ⟨n, Nat.lt_succ_self n, (Sum.inl.inj e).symm⟩, fun _ => rfl⟩
    · rw [if_neg e, dOf_at kf x n]
      constructor
      · rintro ⟨i, h1, h2⟩
        exact ⟨i, Nat.lt_succ_of_lt h1, h2⟩
      · rintro ⟨i, h1, h2⟩
        refine ⟨i, Nat.lt_of_le_of_ne (Nat.le_of_lt_succ h1) fun z => ?_, h2⟩
        rw [z] at h2
        exact e (by rw [h2])
theorem en_dc {wi : TI} {g : TG} {tk tv : TE} {vs : List Nat} {n : Nat} {Y : Nat → Hp → V → Hp → Prop} {s : Nat → L2.St → L2.St} {kf : Nat → Int} (hw : EvI wi σ H n Y) (aim : Aims g n Y s) (hs : ∀ i, wipe (s i (wipe σ vs)) vs = wipe σ vs) (hn : n ≤ 90000)
    (hk : ∀ i, i < n → Ev tk (s i (wipe σ vs)) H (.int (kf i))) (hv : ∀ i, i < n → Ev tv (s i (wipe σ vs)) H (.bl true)) : EvN (tDc wi g tYes tk tv vs) σ H (fun u H' => ∃ d, u = .ref d ∧ H' d = some (.dK (dOf kf n))) := fun H1 e Q q =>
  hw H1 e _ fun J G H2 e2 w sG D hD => by
    refine ⟨fun i m H' => m = n - i ∧ i ≤ n ∧ Ex H2 H' ∧ H' D = some (.dK (dOf kf i)), ⟨n, by simp, Nat.zero_le _, Ex.new hD, upd_same⟩, ?_⟩
    rintro i m A ⟨rfl, hin, p1, p2⟩
    have gA : G A := sG A ((e.trans e2).trans p1) fun a o _ ha => p1 _ _ ha
    by_cases hi : i < n
    · refine .inr ⟨w.goes i A hi gA, fun H' => Ex H2 H' ∧ H' D = some (.dK (dOf kf (i + 1))), fun H' p' => ⟨n - (i + 1), by omega, rfl, hi, p'⟩, fun x B yl => ?_⟩
      obtain ⟨ab, k⟩ := aim i (wipe σ vs) A x B hi (w.yields i A x B hi gA yl)
      refine k _ ⟨hs i, ?_⟩
      refine hk i hi B (((e.trans e2).trans p1).trans ab) _ fun C eC => ?_
      refine hv i hi C ((((e.trans e2).trans p1).trans ab).trans eC) _ fun C2 eC2 => ?_
      have := dOf_len kf i
      exact ⟨dOf kf i, .inl (kf i), rfl, eC2 _ _ (eC _ _ (ab _ _ p2)), sz_lt (by omega), (((p1.trans ab).trans eC).trans eC2).mut hD, upd_same⟩
    · have ei : i = n := by omega
      subst ei
      refine .inl ⟨w.stops A gA, q _ A (e2.trans p1) fun H3 h3 keep => ⟨D, rfl, keep _ _ (fresh_back e2 hD) p2⟩⟩
theorem ev_din {ty td : TE} {d : Addr} {kvs : List (L2.Key × V)} {x : Int} (h1 : Ev ty σ H (.int x)) (h2 : Ev td σ H (.ref d)) (hd : H d = some (.dK kvs)) : Ev (tDIn ty td) σ H (.bl (valV kvs (.inl x)).isSome) := fun H1 e Q q =>
  h1 H1 e _ fun H2 e2 => h2 H2 (e.trans e2) _ fun H3 e3 => ⟨d, _, rfl, DGet.k (k := Sum.inl x) (((e.trans e2).trans e3) _ _ hd), q H3 (e2.trans e3)⟩
end
end Tl
end S_Yw
section S_Wa
namespace Hk
open PySem PySem.Spec PyProof.Rows L2
/-! ### a caught error that is kept behind its try -/
/-- at a stands an error of the class cls, whose own dict is d -/
def ErrAt (cls : Value) (d : Option Addr) (a : Addr) : HO := .ext fun h => ∃ (oe : Obj) (vs : Array Value), h.get? a = some oe ∧ Zc cls d oe ∧ oe.data = .fields vs
section
variable {X : Cx} {pins : List (Addr × Obj)} {σ : L2.St} {H : Hp} {s : Shared}
/-- what stands at a, new since the entry, is told of from now on -/
theorem told_at {a : Addr} {oe : Obj} {vs : Array Value} {cls : Value} {d : Option Addr} (I : Inv X pins σ H s) (at_ : s.heap.get? a = some oe) (z : Zc cls d oe) (hd : oe.data = .fields vs) (na : H a = none) (n0 : X.s_0.heap.get? a = none) (nL : a ≠ X.env.locals)
    (np : ∀ p ∈ X.pn ++ pins, p.1 ≠ a) : Inv X pins σ (upd H a (ErrAt cls d a)) s where
  ok := I.ok
  os := I.os
  bare := I.bare
  base :=
    { keep := I.base.keep, slot := I.base.slot, there := I.base.there
      free := fun b o e n x => by
        have hb : b ≠ a := fun q => by rw [q, n0] at e; cases e
        rw [upd_ne hb]; exact I.base.free b o e n x
      tups := fun b xs e => by
        have q := I.base.tups b xs e
        rw [upd_ne (ne_of_none q na)]; exact q
      frzs := fun b o xs e => by
        have q := I.base.frzs b o xs e
        rw [upd_ne (ne_of_none q na)]; exact q
      tbls := fun b ps e => by
        obtain ⟨m, q⟩ := I.base.tbls b ps e
        exact ⟨m, by rw [upd_ne (ne_of_none q na)]; exact q⟩ }
  loc := I.loc
  cell := I.cell
  free := by rw [upd_ne (Ne.symm nL)]; exact I.free
  freeC := fun x c e => by
    have hb : c ≠ a := fun q => by
      obtain ⟨v, o, ho, hc⟩ := I.cell x c e
      rw [q, at_] at ho
      cases ho
      rw [hd] at hc
      cases hc
    rw [upd_ne hb]; exact I.freeC x c e
  pin := fun p hp => by
    obtain ⟨h1, h2, h3⟩ := I.pin p hp
    exact ⟨h1, by rw [upd_ne (np p hp)]; exact h2, h3⟩
  hok := fun b u e => by
    by_cases hb : b = a
    · subst hb
      rw [upd_same] at e
      cases e
      exact ⟨⟨oe, vs, at_, z, hd⟩, ⟨oe, at_⟩, fun _ _ ⟨o, v, q, r⟩ k => ⟨o, v, k o q, r⟩⟩
    · rw [upd_ne hb] at e
      exact (I.hok b u e).stay (fun _ _ _ q => q) (fun c q => by rw [upd_ne (ne_of_none q na)]; exact q) fun c xs q => by rw [upd_ne (ne_of_none q na)]; exact q
  len := I.len
/-- the wish of the body of such a try: the clause takes every error of the body; the slot i is the clause's name's -/
def wKeep (K : PySem.W.Frag) (c : Value) (i : Nat) (ts : Addr → Value → Option Addr → TS) (D : Ends) : WX := fun cls d σ H =>
  PySem.W.exmOne K cls c = some true ∧ ∀ a, H a = none → ts a cls d { nx := fun σ' H' => H' a = none → D.nx (σ'.set i none) (upd H' a (ErrAt cls d a)), rt := fun _ _ => False, bk := fun _ _ => False, ct := fun _ _ => False } (σ.set i (some (.ref a))) H
theorem ps_keep {x n : Str} {c : Value} {i : Nat} {body suite : List Stmt} {b₀ : Stmt} {np pos pos' : Pos} {tb : WX → TS} {ts : Addr → Value → Option Addr → TS}
    (hst : X.stack = X.env :: X.outer) (hf : X.env.frame = some X.env.locals) (hex : X.ex = []) (nd : X.N.Nodup) (hi : X.N[i]? = some n) (kn : X.env.kindOf n = some .local) (hc : Names X x c)
    (hb : ∀ (W : WX) (pn : List (Addr × Obj)) (xe : Value → Shared → Prop), Takes (X.tr pn xe) W → PassesOwn (model X.prog X.w) X.A X.env xe → PSs (X.tr pn xe) body (tb W))
    (hsu : ∀ (a : Addr) (oe : Obj) (cls : Value) (d : Option Addr) (pn : List (Addr × Obj)), Zc cls d oe → (∃ vs, oe.data = .fields vs) → PSs (X.suite a ((a, oe) :: pn)) (b₀ :: suite) (ts a cls d)) :
    PS X (.Try body [.ExceptHandler (some (.Name x np)) (some n) (b₀ :: suite) pos'] [] [] pos) (fun D σ H => tb (wKeep X.K c i ts D) D σ H) := by
  constructor
  intro pins s σ H D I h
  have frs_ : X.A.frames = some (X.env :: X.outer) := by rw [I.ok.frames, hst]
  have ok := I.ok
  refine wpAny_Try_except (wpAny_mono ((hb (wKeep X.K c i ts D) (X.pn ++ pins) (fun e s₁ => wpAny (model X.prog X.w) X.A (noteFrame e X.env) (fun _ s₂ => wpAny (model X.prog X.w) X.A (setFlight e none) (fun _ s₃ =>
    wpAny (model X.prog X.w) X.A (handleBy e X.env [.ExceptHandler (some (.Name x np)) (some n) (b₀ :: suite) pos']) (SP X pins D) X.xe s₃) X.xe s₂) X.xe s₁) (fun u s' air => ?_) PassesOwn.looking).run [] s σ H D (I.toTry _) h) (fun f s1 hsp => ?_) fun _ _ z => z)
  · obtain ⟨a, B, sI, pins', σ', H', cls, d, rfl, J0, nb, up, sky, na, os, ag, hexm, hts⟩ := air
    have J : Inv X pins σ' H' sI := J0.ofTry ok
    have Ba : B.get? a = none := by
      rcases sky with q | q | q
      · exact q.2.1
      · exact q.2.1
      · exact q.2.1
    rw [hst] at sky
    show wpAny (model X.prog X.w) X.A (noteFrame (.ref a) X.env) _ _ _
    refine Sky.land Zc.steady frs_ hf sky fun h3 fl3 up3 => ?_
    have J3 : Inv X pins σ' H' { s' with heap := h3 } := J.landed nb fl3.1 (up.trans up3) os ag
    obtain ⟨o3, v3, at3, z3, d3⟩ := fl3.there
    have off : ∀ {hh : Heap} {o : Obj} {vs : Array Value}, hh.FunFrames B (X.env :: X.outer) → hh.get? a = some o → o.data = .fields vs → a ∉ frs (X.env :: X.outer) := by
      intro hh o vs ff e dd hm
      obtain ⟨_, o', e', q⟩ := ff.mem hm
      rw [e] at e'
      cases e'
      exact q _ dd
    have offa := off fl3.2.2.1 at3 d3
    have nL : a ≠ X.env.locals := fun q => offa (List.mem_filterMap.mpr ⟨X.env, List.mem_cons_self, by rw [hf, q]⟩)
    have nF : a ∉ X.fs := fun hm => by
      obtain ⟨e, he, q⟩ := List.mem_filterMap.mp hm
      exact offa (List.mem_filterMap.mpr ⟨e, List.mem_cons_of_mem _ he, q⟩)
    -- a is new: nothing of the state without it stands there
    have nI : sI.heap.get? a = none := by
      cases q : sI.heap.get? a with
      | none => rfl
      | some o =>
        have z := nb a o q (by rw [hst]; exact offa)
        rw [Ba] at z
        cases z
    have n0 : a ∉ X.ex → X.s_0.heap.get? a = none := fun nx => by
      cases q : X.s_0.heap.get? a with
      | none => rfl
      | some o =>
        obtain ⟨o', z⟩ := J.base.there a o q nx
        rw [nI] at z
        cases z
    have npin : ∀ p ∈ X.pn ++ pins, p.1 ≠ a := fun p hp q => by
      have z := (J.pin p hp).1
      rw [q, nI] at z
      cases z
    have S3 := J3.suite at3 d3 na nL nF
    refine wpAny_handleBy_cons (codeAny_handlers_test ?_) (fun q => nomatch q)
    have LT : PySem.W.Looks (model X.prog X.w) h3 (typeOf (.ref a)) cls := fun A Q E s k q => wpAny_typeOf_ref (k _ _ at3) (by rw [z3.1]; exact q)
    have LM := PySem.W.exm_one (M := model X.prog X.w) (J3.kIn) LT hexm
    have look : ∀ {Q : Value → Shared → Prop} {E : Value → Shared → Prop}, Q c { s' with heap := h3 } → wpAny (model X.prog X.w) (X.A.mark (some (.ref a))) (eval (.Name x np) X.env) Q E { s' with heap := h3 } := by
      intro Q E q
      rcases hc with ⟨hg, hdb, hm | ⟨hm, hv, hnn⟩⟩
      · exact ld_glob (X := X.suite a ((a, o3) :: (X.pn ++ pins))) S3 hg hm q hdb
      · exact ld_blt (X := X.suite a ((a, o3) :: (X.pn ++ pins))) S3 hg hm hv q hnn hdb
    refine look (LM.here (codeAny_handlers_suite_as (HandSPX.lands_againZ fl3 fun h4 fl4 up4 => ?_)))
    have J4 : Inv X pins σ' H' { s' with heap := h4 } := J.landed nb fl4.1 ((up.trans up3).trans up4) os ag
    obtain ⟨o4, v4, at4, z4, d4⟩ := fl4.there
    refine store_ok (X := X.suite a ((a, o4) :: (X.pn ++ pins))) (v := .ref a) (J4.suite at4 d4 na nL nF) nd hi (.inl kn) rfl (fun s5 S5 => ?_) (.inr kn)
    refine wpAny_mono ((hsu a o4 cls d (X.pn ++ pins) z4 ⟨_, d4⟩).run [] s5 _ H' _ S5 (hts a na)) (fun f s6 hsp => ?_) (fun _ _ z => False.elim z)
    cases f with
    | next =>
      obtain ⟨σ6, H6, S6, q6⟩ := hsp
      obtain ⟨at6, na6, _⟩ := S6.pin (a, o4) (List.mem_append_left _ List.mem_cons_self)
      have T6 := told_at (S6.unsuite ok) at6 z4 d4 na6 (n0 (by rw [hex]; exact fun z => nomatch z)) nL npin
      exact gone_ok T6 nd hi kn fun s7 J7 => ⟨_, _, J7, q6 na6⟩
    | brk => exact hsp.elim fun _ q => q.elim fun _ q => q.2.elim
    | cont => exact hsp.elim fun _ q => q.elim fun _ q => q.2.elim
    | ret u =>
      obtain ⟨_, _, _, _, _, q⟩ := hsp
      exact q.elim
  · cases f with
    | next =>
      obtain ⟨σ', H', J', q⟩ := hsp
      exact wpAny_execs_nil ⟨σ', H', J'.ofTry ok, q⟩
    | ret u =>
      obtain ⟨v, σ', H', J', r, q⟩ := hsp
      exact ⟨v, σ', H', J'.ofTry ok, r, q⟩
    | brk =>
      obtain ⟨σ', H', J', q⟩ := hsp
      exact ⟨σ', H', J'.ofTry ok, q⟩
    | cont =>
      obtain ⟨σ', H', J', q⟩ := hsp
      exact ⟨σ', H', J'.ofTry ok, q⟩
end
end Hk
end S_Wa
section S_Wb
namespace Hk
open PySem PySem.Spec PyProof.Rows L2
/-- what the written part must say of an own error's class at D, whose errors are asked about -/
structure ErrC (K : PySem.W.Frag) (D : Addr) : Prop where
  ga : PySem.W.findIn K (.ref D) "__getattribute__" = some (some (.builtin "BaseException.__getattribute__"))
  gg : PySem.W.findIn K (.ref D) "__getattr__" = some none
  ex : PySem.W.subIn K (.ref D) (.type "BaseException") = some true
  hd : PySem.W.hasDictIn K D = true
  ci : PySem.W.isClsIn K D = true
  ha : PySem.W.findIn K (.ref D) "__class__" = some (some (.builtin "object.__class__"))
  hn : PySem.W.specialIn K (.builtin "object.__class__") "__get__" = some (some (.builtin "getset_descriptor.__get__"))
  ht : PySem.W.takesIn K (.builtin "object.__class__") = some true
  hm : PySem.W.mroIn K D (.type "object") = some true
/-- the error's own dict, if it has one, is told of -/
def DictAt (H : Hp) (d : Option Addr) (fs : List (Str × V)) : Prop := ∃ dd, d = some dd ∧ H dd = some (.xd fs)
/-- isinstance(e, c) of a kept error -/
def rIsK (K : PySem.W.Frag) : List V → Hp → VK → Prop := fun xs H Q => ∃ (a D : Addr) (d : Option Addr) (fs : List (Str × V)) (c : V) (u : Value) (b : Bool), xs = [.ref a, c] ∧ H a = some (ErrAt (.ref D) d a) ∧ DictAt H d fs ∧ ErrC K D ∧ ClsV c u ∧ PySem.W.kitOne K (.ref D) u = some b ∧ Q (.bl b) H
section
variable {X : Cx} {pins : List (Addr × Obj)} {σ : L2.St} {H : Hp} {s : Shared}
theorem at_inst {a D : Addr} {d : Option Addr} {fs : List (Str × V)} (I : Inv X pins σ H s) (ha : H a = some (ErrAt (.ref D) d a)) (hd : DictAt H d fs) :
    ∃ (oe od : Obj) (mA : Str → Option Value), PySem.W.InstAt s.heap a oe D (some od) ∧ (∀ name, PySem.W.lookIn name od = some (mA name)) ∧ ∀ f, RelO (fs.lookup f) (mA f) := by
  obtain ⟨⟨oe, vs, he, hz, hv⟩, _, _⟩ := (show ObjOk X.prog X.w H s.heap a (ErrAt (.ref D) d a) from I.hok a _ ha)
  obtain ⟨dd, rfl, hdd⟩ := hd
  obtain ⟨mA, hns, hr⟩ := (show ObjOk X.prog X.w H s.heap dd (.xd fs) from I.hok dd _ hdd)
  obtain ⟨od, ho, hl⟩ := lookIn_ns hns
  exact ⟨oe, od, mA, ⟨he, hz.1, by unfold PySem.W.notCls; rw [hv] <;> rfl, by rw [hz.2]; exact ho⟩, hl, hr⟩
theorem call_isKept : CallR X (.builtin "isinstance") (rIsK X.K) := by
  intro pins s σ H xs us Q I r h
  obtain ⟨a, D, d, fs, c, u, b, rfl, ha, hd, C, hc, e, q⟩ := h
  cases r with
  | cons rx rr =>
    cases rr with
    | cons rt rr =>
      cases rr
      cases rx
      have ec := hc.eq rt
      subst ec
      obtain ⟨oe, od, mA, J, _, _⟩ := at_inst I ha hd
      exact PySem.W.kia_one (PySem.W.kitx_exc C.ci C.ga C.gg C.ex C.ha C.hn C.ht C.hm) I.kIn J e (fun z => nomatch z) fun tk => ⟨.bl b, H, I.kept (t' := tk) fun _ _ z => z, rfl, q⟩
/-- of either -/
theorem call_isAny : CallR X (.builtin "isinstance") (fun xs H Q => rIsi X.K xs H Q ∨ rIsK X.K xs H Q) := by
  intro pins s σ H xs us Q I r h
  rcases h with h | h
  · exact call_isi _ _ _ _ _ _ _ I r h
  · exact call_isKept _ _ _ _ _ _ _ I r h
/-- e.f, e a kept error -/
def tKeptF (K : PySem.W.Frag) (f : Str) (te : TE) : TE := fun σ H Q => te σ H fun x H1 => ∃ (a D : Addr) (d : Option Addr) (fs : List (Str × V)) (v : V), x = .ref a ∧ H1 a = some (ErrAt (.ref D) d a) ∧ DictAt H1 d fs ∧ ErrC K D ∧ PySem.W.findIn K (.ref D) f = some none ∧ fs.lookup f = some v ∧ Q v H1
theorem pe_keptF {e : Expr} {te : TE} {pos : Pos} {f : Str} (he : PE X e te) (hb : attributeBase e f X.env (eval e X.env) = eval e X.env := by rfl) : PE X (.Attribute e f pos) (tKeptF X.K f te) := by
  refine ⟨fun pins s σ H Q I h => attr_of hb (thn (he.run pins s σ H _ I h) fun u s1 hh => ?_)⟩
  obtain ⟨x, H1, I1, rx, a, D, d, fs, v, rfl, ha, hd, C, hno, hl, q⟩ := hh
  obtain rfl : u = Value.ref a := rx
  obtain ⟨oe, od, mA, J, look, rel⟩ := at_inst I1 ha hd
  obtain ⟨w, hw, rw_⟩ := RelO.some_of (v := v) (o := mA f) (by rw [← hl]; exact rel f)
  exact HandSPX.exc_get I1.kIn J C.ga C.gg C.ex (PySem.W.findObj_own C.hd hno rfl (by rw [look, hw])) (handed_of rw_) ⟨v, H1, I1.tok _, rw_, q⟩
end
end Hk
end S_Wb
section S_Wc
set_option maxHeartbeats 2000000
namespace PySem
namespace PartX
open PySem.W PySem.Calls PyProof.Rows PySem.HandSPX
/-! ### the text of __init__ -/
def iA (p1 p2 : Pos) : Arguments := { posonlyargs := [], args := [{ arg := "self", annotation := none, pos := p1 }, { arg := "part", annotation := none, pos := p2 }], vararg := none, kwonlyargs := [], kw_defaults := [], kwarg := none, defaults := [] }
def iB (q1 q2 q3 q4 : Pos) : List Stmt := [.Assign [.Attribute (.Name "self" q1) "part" q2] (.Name "part" q3) q4]
def iS : Scope := { kind := .function, names := [(PySem.Str.ofString "self", .local), (PySem.Str.ofString "part", .local)], isGenerator := false, isCoroutine := false, more := [] }
/-- what the written part says of Low, at C, and of its __init__, at fI -/
structure PartTxt (K : Frag) (mg : Str → Option Value) (nmE qI : Str) (C fI : Addr) : Prop where
  gC : mg nmE = some (.ref C)
  cls : ∃ nm q N bs bm sn sub ab col dd k0 k1 k2 k3 k5, K.lookup C = some (excClassObj nm q C N bs bm true sn sub ab col dd k0 k1 k2 k3 k5 "ValueError.__new__") ∧ refsVE bm = true
  sa : findIn K (.ref C) "__setattr__" = some (some (.builtin "object.__setattr__"))
  ga : findIn K (.ref C) "__getattribute__" = some (some (.builtin "BaseException.__getattribute__"))
  gg : findIn K (.ref C) "__getattr__" = some none
  noN : findIn K (.ref C) "part" = some none
  iC : findIn K (.ref C) "__init__" = some (some (.ref fI))
  tC : typeIn K (.ref fI) = some (.type "function")
  kC : keepIn K (.ref C) = true
  exC : subIn K (.ref C) (.type "BaseException") = some true
  tyC : typeIn K (.ref C) = some (.type "type")
  hdC : hasDictIn K C = true
  fn : ∃ (oc : Value) (od : Option Addr) (doc pm : Value) (an : Option Addr) (cdv ct : Value) (osl : Array (Option Value)) (p1 p2 q1 q2 q3 q4 : Pos),
    K.lookup fI = some ⟨oc, od, .func (fnOf "__init__" qI (iA p1 p2) (iB q1 q2 q3 q4) iS .none .none doc pm an cdv ct), osl⟩ ∧ codeIn K cdv qI = true
theorem one_size (v : Value) : [v].length ≤ sizeLine := by
  rw [sizeLine_eq]
  exact (by decide : 1 ≤ 16777216)
theorem kept_but {K : Frag} {h h' : Heap} {x : Addr} (X : K.In h) (hx : K.lookup x = none) (k : ∀ b o, b ≠ x → h.get? b = some o → h'.get? b = some o) : K.In h' := fun a o e =>
  k a o (fun z => by rw [z, hx] at e; cases e) (X a o e)
theorem ldC {M : Model} {s : Shared} {name : Str} {scope : Scope} {L a : Addr} {cd : Value} {m : Str → Option Value} {x : Str} {pos : Pos} {v : Value} {Q : Value → Shared → Prop} {A : Around} {E : Value → Shared → Prop} (hn : s.heap.Ns L m) (hv : m x = some v) (h : Q v s)
    (hk : scope.kind = .function := by rfl) (hl : (envOfC name scope L a cd).kindOf x = some .local := by rfl) (hd : (x == ("__debug__" : Str)) = false := by decide) :
    wpAny M A (eval (.Name x pos) (envOfC name scope L a cd)) Q E s := wpAny_Name (wpAny_loadName_local hk hl hn hv h) hd
/-- what __init__ leaves of a fresh exception at x -/
structure InitEnd (h h' : Heap) (x C dx t1 : Addr) (v : Value) : Prop where
  keep : ∀ b o, b ≠ x → h.get? b = some o → h'.get? b = some o
  obj : h'.get? x = some { cls := .ref C, dict := some dx, data := .fields #[.ref t1, .none, .none, .none, .bool false, .none] }
  dbig : h.objs.size ≤ dx
  dne : dx ≠ x
  ns : h'.Ns1 dx (fun y => if y = "part" then some v else none)
/-- a made Low -/
structure OwnMade (h h' : Heap) (e C d : Addr) (v : Value) : Prop where
  keep : ∀ b o, h.get? b = some o → h'.get? b = some o
  new : h.objs.size ≤ e
  obj : ∃ oe vs, h'.get? e = some oe ∧ oe.cls = .ref C ∧ oe.dict = some d ∧ oe.data = .fields vs ∧ vs[1]? = some .none
  dbig : h.objs.size ≤ d
  dne : d ≠ e
  ns : h'.Ns1 d (fun y => if y = "part" then some v else none)
section
variable {prog : Program} {w : World} {A : Around} {E : Value → Shared → Prop} {R : Result → Shared → Prop} {s : Shared} {K : Frag} {mg : Str → Option Value} {nmE qI : Str} {C fI : Addr}
theorem part_init (T : PartTxt K mg nmE qI C fI) {x t0 : Addr} {v : Value} (X : K.In s.heap) (hlim : s.heap.NoLimit) (hx : s.heap.get? x = some (excO C t0)) (hnx : K.lookup x = none) (hroom : A.depth < recursionLimit)
    (hq : ∀ h' tk dx, InitEnd s.heap h' x C dx t0 v → R (.ok (.ret .none)) { s with heap := h', toks := tk }) :
    codeAny (model prog w) A (.call (.ref fI) ⟨[.ref x, v], []⟩) R s := by
  obtain ⟨oc, od, doc, pm, an, cdv, ct, osl, p1, p2, q1, q2, q3, q4, ho, hcd⟩ := T.fn
  obtain ⟨nm, q, N, bs, bm, sn, sub, ab, col, dd, k0, k1, k2, k3, k5, hC, hbm⟩ := T.cls
  have hcl : clsIn K C = some { name := nm, bases := bs, mro := .ref C :: bm, ns := N, qualname := q, hasDict := true, slotNames := sn, subclasses := sub, abstract := ab, collection := col, hasDel := false } := by unfold clsIn; rw [hC] <;> rfl
  refine Att.call_fn (binds := [("self", .ref x), ("part", v)]) X hlim ho hcd hroom (BindsTo.of_eq (by first | rfl | with_unfolding_all rfl)) (by first | rfl | decide | with_unfolding_all rfl) (fun s₁ IC => ?_) rfl rfl rfl
  obtain ⟨h₁, tk₁, rfl⟩ := IC.toInCall.same
  have k : ∀ b o, s.heap.get? b = some o → h₁.get? b = some o := IC.toInCall.keep
  have hn := IC.toInCall.ns
  have hxL : s.heap.objs.size ≠ x := Nat.ne_of_gt (Heap.lt_size hx)
  have X₁ : K.In h₁ := X.keeps k
  have hx₁ := k _ _ hx
  -- self.by = by
  show wpAny _ _ (execs _ _) _ _ _
  refine wpAny_execs_cons (plainObj_wpAny_Assign_Attribute ?_)
  refine ldC (v := v) hn (by first | rfl | with_unfolding_all rfl | kernel_rfl) (ldC (v := .ref x) hn (by first | rfl | with_unfolding_all rfl | kernel_rfl) ?_)
  refine set_plain X₁ (ox := excO C t0) (od := none) ⟨hx₁, rfl, rfl, trivial⟩ T.sa ?_
  refine exc_osa X₁ hx₁ hcl (show refsVE (.ref C :: bm) = true from hbm) rfl T.noN (fun h₃ tk₃ dx k₃ dn dne hx₃ hn₃ => ?_)
  show wpAny _ _ (execs _ _) _ _ _
  have z : s.heap.objs.size < h₁.objs.size := hn.lt
  exact wpAny_execs_nil (hq h₃ tk₃ dx ⟨fun b o hb e => k₃ b o hb (k b o e), hx₃, Nat.le_of_lt (Nat.lt_of_lt_of_le z dn), dne, hn₃⟩)
theorem part_made (T : PartTxt K mg nmE qI C fI) {v : Value} (X : K.In s.heap) (hlim : s.heap.NoLimit) (hroom : A.depth + 1 < recursionLimit)
    (hq : ∀ h' tk e d, OwnMade s.heap h' e C d v → R (.ok (.ret (.ref e))) { s with heap := h', toks := tk }) :
    codeAny (model prog w) A (.call (.ref C) ⟨[v], []⟩) R s := by
  obtain ⟨nm, q, N, bs, bm, sn, sub, ab, col, dd, k0, k1, k2, k3, k5, hC, hbm⟩ := T.cls
  obtain ⟨hp, g, dr, tk, os⟩ := s
  have k : ∀ b o, hp.get? b = some o → ((hp.push (kdv_tup [v])).push (excO C hp.objs.size)).get? b = some o := fun b o e => Heap.get?_push_of_some _ (Heap.get?_push_of_some _ e)
  have hget : ((hp.push (kdv_tup [v])).push (excO C hp.objs.size)).get? (hp.objs.size + 1) = some (excO C hp.objs.size) := by heap_get
  have hnx : K.lookup (hp.objs.size + 1) = none := by
    cases e : K.lookup (hp.objs.size + 1) with
    | none => rfl
    | some o =>
      have z : hp.get? (hp.objs.size + 1) = some o := X _ _ e
      exact absurd (Nat.lt_of_succ_lt (Heap.lt_size z)) (Nat.lt_irrefl _)
  refine call_own F.excBase_ValueError (fun X => refsVE_contains X bm hbm) (X _ _ hC) (looks_findIn X T.iC) (fun self => bind_fn X self T.tC) (one_size v) ?_
  refine part_init (s := ⟨(hp.push (kdv_tup [v])).push (excO C hp.objs.size), g, dr, tk, os⟩) T (X.keeps k) (hlim.keeps k) hget hnx ?_ fun h' tk' dx ⟨k', hx, dn, dne, hns⟩ => ?_
  · show A.depth + 1 < recursionLimit
    exact hroom
  · have old : ∀ b o, hp.get? b = some o → h'.get? b = some o := fun b o e => k' b o (Nat.ne_of_lt (Nat.lt_succ_of_lt (Heap.lt_size e))) (k b o e)
    have z : hp.objs.size + 1 + 1 ≤ dx := by
      first
        | (simpa only [Heap.size_push] using dn)
        | exact dn
        | (have q := dn; rw [Heap.size_push, Heap.size_push] at q; exact q)
    exact ⟨rfl, hq h' tk' (hp.objs.size + 1) dx ⟨old, Nat.le_succ _, ⟨_, _, hx, rfl, rfl, rfl, rfl⟩, Nat.le_trans (Nat.le_trans (Nat.le_succ _) (Nat.le_succ _)) z, dne, hns⟩⟩
end
end PartX
end PySem
namespace L2
open PySem PySem.Spec PyProof.Rows
theorem relO_part {v : V} {v' : Value} (r : RelV v v') (f : Str) : RelO (List.lookup f [(("part" : Str), v)]) (if f = "part" then some v' else none) := by
  by_cases hw : f = "part"
  · subst hw
    rw [if_pos rfl]
    have q : List.lookup ("part" : Str) [(("part" : Str), v)] = some v := by simp [List.lookup]
    rw [q]
    exact r
  · rw [if_neg hw]
    have qw : (f == ("part" : Str)) = false := by simpa using hw
    have q2 : List.lookup f [(("part" : Str), v)] = none := by simp [List.lookup, qw]
    rw [q2]
    trivial
section
variable {X : Cx} {nmE qI : Str} {C fI : Addr}
/-- Low(e) -/
def tMkPart (C : Addr) (ta : TA) : St → Hp → XK → Prop := fun σ H Q => ta σ H fun vs H1 => ∃ v, vs = [v] ∧ ∀ d, H1 d = none → Q (.ref C) (some d) (upd H1 d (.xd [(("part" : Str), v)]))
theorem pmk_part {a : Expr} {ta : TA} {p pos : Pos} {k : Nat} (T : PySem.PartX.PartTxt X.K X.mg nmE qI C fI) (hr : Room k X.A) (ha : PA X [a] ta) (hg : Gl X nmE) (hdb : (nmE == ("__debug__" : Str)) = false := by decide)
    (he : starEach (a :: []) X.env = (false, eval a X.env) :: starEach [] X.env := by rfl) (hpl : (backTo pos (starEach [] X.env)).any (·.1) = false := by rfl) :
    PMk X (.Call (.Name nmE p) [a] [] pos) (tMkPart C ta) := by
  intro pins s σ H Q I h
  refine wpAny_Call_Name_kw (ld_glob I hg T.gC ?_ hdb)
  refine PySem.W.callWith_K (h₀ := X.base) I.ok.mod.kin T.kC (thn (ha.run pos pins s σ H _ I h) fun us s1 hh => ?_) he hpl
  obtain ⟨vs, H1, I1, r1, v, ev, q1⟩ := hh
  subst ev
  refine ⟨I1.kIn, ?_⟩
  cases r1 with
  | cons rv rn =>
    rename_i v' us'
    cases rn
    show wpAny _ _ (call (.ref C) [v']) _ _ _
    have hlim := I1.nolimit
    obtain ⟨hp, g, dr, tk, os⟩ := s1
    refine wpAny_call (PySem.PartX.part_made T I1.kIn hlim (by have := hr.dp; omega) fun h' tk' e d M => ?_)
    show MkP X pins σ Q (.ref e) ⟨h', g, dr, tk', os⟩
    obtain ⟨oe, fv, hoe, hc, hd, hdat, h1⟩ := M.obj
    have hns := M.ns
    obtain ⟨G', g1, g2⟩ := restrict h' fun b => decide (b ≠ e)
    have gk : ∀ b, b ≠ e → G'.get? b = h'.get? b := fun b hb => g1 b (decide_eq_true hb)
    have ge : G'.get? e = none := g2 e (by simp)
    have old : ∀ b o, hp.get? b = some o → G'.get? b = some o := fun b o q => (gk b (Nat.ne_of_lt (Nat.lt_of_lt_of_le (Heap.lt_size q) M.new))).trans (M.keep b o q)
    have ob : ObjOk X.prog X.w (upd H1 d (.xd [(("part" : Str), v)])) G' d (.xd [(("part" : Str), v)]) :=
      ⟨_, hns.at (fun o q => (gk d M.dne).trans q), fun f => relO_part rv f⟩
    have J : Inv X pins σ (upd H1 d (.xd [(("part" : Str), v)])) ⟨G', g, dr, tk', os⟩ := I1.laid (t' := tk') old M.dbig ob
    refine ⟨e, oe, fv, ⟨G', g, dr, tk', os⟩, _, .ref C, some d, rfl, J, fun b o q => ?_, ge, hoe, ⟨hc, hd⟩, hdat, h1, ?_, rfl, I1.bare, raises_own T.exC T.tyC, q1 d (I1.hok.fresh M.dbig)⟩
    · by_cases hb : b = e
      · have q' : G'.get? b = some o := q
        rw [hb, ge] at q'; cases q'
      · exact (gk b hb).symm.trans q
    · rw [upd_ne (Ne.symm M.dne)]
      exact I1.hok.fresh M.new
/-- raise Low(e) -/
def tRaisePart (C : Addr) (W : WX) (ta : TA) : TS := fun _ σ H => tMkPart C ta σ H fun cls d H' => W cls d σ H'
theorem ps_raisePart {a : Expr} {ta : TA} {W : WX} {p pos pos2 : Pos} {k : Nat} (hc : X.calm = true) (T : PySem.PartX.PartTxt X.K X.mg nmE qI C fI) (hr : Room k X.A) (tk : Takes X W) (ha : PA X [a] ta) (hg : Gl X nmE) (hdb : (nmE == ("__debug__" : Str)) = false := by decide)
    (he : starEach (a :: []) X.env = (false, eval a X.env) :: starEach [] X.env := by rfl) (hpl : (backTo pos (starEach [] X.env)).any (·.1) = false := by rfl) :
    PS X (.Raise (some (.Call (.Name nmE p) [a] [] pos)) none pos2) (tRaisePart C W ta) := ps_raise hc tk (pmk_part T hr ha hg hdb he hpl)

end
end L2
end S_Wc
section S_Wd
namespace Hk
open PySem PySem.Spec PyProof.Rows L2 LamX
theorem takes_len {X : Cx} {W : WX} (tk : L2.Takes X W) : L2.Takes X (fun cls d σ H => σ.length = X.N.length → W cls d σ H) := fun u s' ⟨a, B, sI, pins, σ, H, cls, d, e, I, nb, up, sky, na, os, ag, w⟩ =>
  tk u s' ⟨a, B, sI, pins, σ, H, cls, d, e, I, nb, up, sky, na, os, ag, w I.len⟩
abbrev nAsk : List Str := ["ask", "caught", "error"]
/-- caught = None / try: ask() / except E as error: caught = error / return ret -/
def THeard (K : PySem.W.Frag) (CS : Addr) (tr : TE) : (XK → Hp → VK → Prop) → Hp → VK → Prop := fun tl H Q => ∀ f : Addr,
  tl (fun cls d H' => PySem.W.exmOne K cls (.ref CS) = some true ∧ ∀ a, H' a = none → ∀ σ' : L2.St, σ'.length = 3 → σ'[1]? = some (some (.ref a)) → tr σ' (upd H' a (ErrAt cls d a)) Q) H
    fun _ H' => tr [some (.ref f), some .non, none] H' Q
abbrev cxA (X : Cx) (x : Str) (sg : Scope) (g : Addr) (cdg : Value) (A : Around) (s : Shared) (H : Hp) : Cx := (cxOf C8.CX0 X.prog X.w X.K X.mg X.base nAsk x sg g cdg A X.stack s H C8.E0).nox
theorem heard_gives {X : Cx} {x e q : Str} {sg : Scope} {g CS : Addr} {cdg : Value} {j : Nat} {rt : Expr} {tr : TE} {p1 p2 p3 p4 p5 p6 p7 p8 p9 r1 r2 r3 r4 : Pos} (Sg : FnScope nAsk ["ask"] sg) (k1 : sg.names.lookup ("caught" : Str) = some NameKind.local) (k2 : sg.names.lookup ("error" : Str) = some NameKind.local)
    (hge : sg.names.lookup e = some .globalImplicit) (hme : X.mg e = some (.ref CS)) (hde : (e == ("__debug__" : Str)) = false)
    (hrt : ∀ (A : Around) (s : Shared) (H : Hp), PE (cxA X x sg g cdg A s H) rt tr) :
    GivesTo X nAsk x sg g cdg [.Assign [.Name "caught" p1] (.Constant .none j p2) p3, .Try [.Expr (.Call (.Name "ask" r1) [] [] r2) r3] [.ExceptHandler (some (.Name e p4)) (some "error") [.Assign [.Name "caught" p5] (.Name "error" p6) p7] p8] [] [] p9, .Return (some rt) r4] "ask" q (THeard X.K CS tr) := by
  intro f c' s H Q tl act hc h
  have gE : Gl (cxA X x sg g cdg X.A s H) e := hge
  have l1 : ∀ {Y : Cx}, Y.env.scope = sg → (Y.fn "caught" = true ∨ Y.env.scope.names.lookup ("caught" : Str) = some NameKind.local) := fun e => .inr (by rw [e]; exact k1)
  refine ⟨_, pss_cons (ps_set (X := cxA X x sg g cdg X.A s H) (i := 1) Sg.nd rfl (Or.inl k1) pe_non rfl (l1 rfl)) (pss_cons (ps_keep (X := cxA X x sg g cdg X.A s H) (i := 2) (c := .ref CS) (ts := fun _ _ _ => tAsg (tVar 2) (gName 1))
      (tb := fun W D σ H => ∃ Ech : XK, (∀ cls d σ' H', Ech cls d H' → σ'.length = 3 → W cls d σ' H') ∧ σ[0]? = some (some (.ref f)) ∧ H c' = some (CodeO c' q) ∧ tl Ech H (fun _ H' => D.nx σ H'))
      rfl rfl rfl Sg.nd rfl k2 ⟨gE, hde, Or.inl hme⟩ (fun W pn xe tk _ => ?_) (fun a oe cls d pn _ _ => pss_one (ps_set (i := 1) Sg.nd rfl (Or.inl k1) (pe_var (i := 2) rfl (Or.inl k2)) rfl (l1 rfl)))) (pss_one (ps_ret (hrt X.A s H)))), ?_⟩
  · refine ⟨fun pins s' σ H' D I h' => ?_⟩
    obtain ⟨Ech, hW, h1, h2, h3⟩ := h'
    have hp := act (fun cls d σ H => σ.length = nAsk.length → W cls d σ H) pn xe Ech r1 r2 (takes_len tk) hW
    exact (pss_one (ps_expr (pos := r3) hp)).run pins s' σ H' D I ⟨h1, h2, h3⟩
  · have h' : tl (fun cls d H' => PySem.W.exmOne X.K cls (.ref CS) = some true ∧ ∀ a, H' a = none → ∀ σ' : L2.St, σ'.length = 3 → σ'[1]? = some (some (.ref a)) → tr σ' (upd H' a (ErrAt cls d a)) Q) H (fun _ H' => tr [some (V.ref f), some .non, none] H' Q) := h f
    refine ⟨fun cls d H' => PySem.W.exmOne X.K cls (.ref CS) = some true ∧ ∀ a, H' a = none → ∀ σ' : L2.St, σ'.length = 3 → σ'[1]? = some (some (.ref a)) → tr σ' (upd H' a (ErrAt cls d a)) Q, ?_, rfl, hc, h'⟩
    intro cls d σ' H' hh hl
    obtain ⟨he, hk⟩ := hh
    refine ⟨he, fun a na => ?_⟩
    exact ⟨.ref a, by rw [List.getElem?_set_self (by omega)] <;> rfl, fun na' => hk a na' _ (by simp [hl]) (by rw [List.getElem?_set_ne (by decide), List.getElem?_set_self (by simp [hl])] <;> rfl)⟩
end Hk
end S_Wd
section S_We
namespace Hk
open PySem PySem.Spec PyProof.Rows L2 LamX Tl
/-- the law's own call where no repr is under way, its code object's table tracked -/
theorem law_gT {P : Program} {w : World} {K : PySem.W.Frag} {mg mb : Str → Option Value} {k : Nat} {fa a c T : Addr} {fd : FuncData} {x : Str} {sp : Sp} {s₁ : Shared} {vs : List Value} {ns : List Int}
    (kin : K.In s₁.heap) (hns : s₁.heap.Ns mainGlobals mg) (hb : s₁.heap.Ns builtinsNs mb) (hbb : ∀ x : Str, x ≠ "__name__" → mb x = bootBuiltins x) (hlim : s₁.heap.NoLimit) (hg : s₁.gens = #[])
    (hT : s₁.heap.get? T = some { cls := .none, data := .fields #[] }) (nT : K.lookup T = none) (hC : PySem.W.CodeHd s₁.heap c T)
    (hbm : ∃ (bm : Addr) (ob : Obj), mg "__builtins__" = some (.ref bm) ∧ bm ≠ builtinsNs ∧ s₁.heap.get? bm = some ob ∧ ob.cls = .type "module" ∧ ob.dict = some builtinsNs ∧ ob.data = .plain)
    (ha : s₁.heap.get? a = some { cls := .type "list", data := .seq vs.toArray }) (hi : IntsAre vs ns) (hl : ns.length ≤ sizeLine) (hr : Room k callerA)
    (F : ∀ base : Heap, K.In base → base.Ns mainGlobals mg → TabB base mg c T → FnG P w K mg base k fa fd [x] sp) (hbind : ∀ (s : Shared) (u : Value), BindsTo s fd ⟨[u], []⟩ [(x, u)])
    (hsp : ∀ H : Hp, H T = some (.tbl #[]) → SqL K H a (ns.map V.int) → sp [.ref a] H (fun v _ => v = .bl true) fun _ _ _ => False) :
    codeAny (model P w) callerA (.call (.ref fa) ⟨[.ref a], []⟩) (fun r s' => r = .ok (.ret (.bool true)) ∧ OldK s₁.heap s'.heap ∧ s'.os = s₁.os ∧ AllBare s'.gens) s₁ := by
  have rv := vals_ints hi
  have aT : a ≠ T := fun z => by
    rw [z, hT] at ha
    have z' : Data.fields #[] = Data.seq vs.toArray _ := congrArg Obj.data (Option.some.inj ha)
    cases z'
  have run : ∀ H : Hp, H T = some (.tbl #[]) → SqL K H a (ns.map V.int) → HOk P w H s₁.heap → (∀ b u, H b = some u → b = T ∨ (b = a ∧ K.lookup a = none ∧ ∃ o xs, u = .frz o (.lst xs))) →
      codeAny (model P w) callerA (.call (.ref fa) ⟨[.ref a], []⟩) (fun r s' => r = .ok (.ret (.bool true)) ∧ OldK s₁.heap s'.heap ∧ s'.os = s₁.os ∧ AllBare s'.gens) s₁ := by
    intro H hHT hS hok hA
    have keepB : ∀ {b : Addr} {o : Obj}, s₁.heap.get? b = some o → (∀ vs n, o.data ≠ .seq vs n) → o.data ≠ .fields #[] → (hidT s₁.heap H).get? b = some o := fun {b o} e h1 h2 => by
      refine hidT_get e ?_
      cases q : H b with
      | none => rfl
      | some u =>
        rcases hA b u q with e1 | ⟨e1, _⟩
        · rw [e1, hT] at e
          cases e
          exact absurd rfl h2
        · rw [e1, ha] at e
          cases e
          exact absurd rfl (h1 _ _)
    have ns_of : ∀ {b : Addr} {m : Str → Option Value}, s₁.heap.Ns b m → (hidT s₁.heap H).Ns b m := fun {b m} hm => by
      obtain ⟨o, es, ep, e, d, r⟩ := hm
      exact ⟨o, es, ep, keepB e (fun vs n z => by rw [d] at z; cases z) (fun z => by rw [d] at z; cases z), d, r⟩
    have kb : K.In (hidT s₁.heap H) := fun b o e => hidT_get (kin b o e) (by
      cases q : H b with
      | none => rfl
      | some u =>
        rcases hA b u q with e1 | ⟨e1, e2, _⟩
        · rw [e1, nT] at e
          cases e
        · rw [e1, e2] at e
          cases e)
    have hM : Mod K mg (hidT s₁.heap H) := ⟨kb, ns_of hns, ⟨mb, ns_of hb, hbb⟩, hlim.elim fun mc h => ⟨mc, ns_of h.1, h.2⟩⟩
    have e0 : Env0 P w K mg (hidT s₁.heap H) callerA [] s₁ H := ⟨rfl, hM, fun _ _ e => of_hidT e, by rw [hidT_size] <;> exact Nat.le_refl _, trivial, fun _ hb => (nomatch hb), hok, .of_eq hg⟩
    have TB : TabB (hidT s₁.heap H) mg c T := by
      refine ⟨?_, ?_, fun z => ?_⟩
      · obtain ⟨o, us, file, tf, flags, tg, inF, text, tt, e1, r1, r2, r3, r4⟩ := hC
        exact ⟨o, us, file, tf, flags, tg, inF, text, tt, keepB e1 (fun vs n z => by rw [r2] at z; cases z) (fun z => by rw [r2] at z; cases z; simp at r3), r1, r2, r3, r4⟩
      · obtain ⟨bm, ob, b1, b2, b3, b4, b5, b6⟩ := hbm
        refine ⟨bm, ob, b1, b2, fun q => ?_, fun q => ?_, keepB b3 (fun vs n z => by rw [b6] at z; cases z) (fun z => by rw [b6] at z; cases z), b4, b5, b6⟩
        · obtain ⟨o, es, ep, e, hd, _⟩ := hns
          rw [q, e] at b3
          cases b3
          rw [hd] at b6
          cases b6
        · rw [q, hT] at b3
          cases b3
          cases b6
      · obtain ⟨o, es, ep, e, hd, _⟩ := hns
        rw [z, hT] at e
        cases e
        cases hd
    refine codeAny_mono ((F _ kb (ns_of hns) TB).go rfl hr e0 (us := [.ref a]) (hbind s₁ (.ref a)) (vs := [.ref a]) (.cons rfl .nil) (hsp H hHT hS)) fun r s' h => ?_
    match r, h with
    | .ok (.ret u), h =>
      obtain ⟨v, H', os, bare, un, hok', r', q⟩ := h
      cases (show v = .bl true from q)
      cases (show u = Value.bool true from r')
      obtain ⟨more, zT⟩ := un.tbls T #[] hHT
      have grown : s'.heap.get? T = some { cls := .none, data := .fields more } := by
        have q := hok' T _ zT
        rw [Array.empty_append] at q
        exact q
      have others : ∀ b o, b ≠ T → s₁.heap.get? b = some o → s'.heap.get? b = some o := fun b o nb e => by
        cases q : H b with
        | none => exact un.keep b o e q (fun y => (nomatch y)) (fun y => (nomatch y))
        | some u =>
          rcases hA b u q with z | ⟨_, _, ob, xs, rfl⟩
          · exact absurd z nb
          · obtain ⟨e1, _⟩ := hok b _ q
            obtain ⟨e2, _⟩ := hok' b _ (un.frzs b ob _ q)
            rw [e] at e1
            cases e1
            exact e2
      refine ⟨rfl, ⟨fun b o e => ?_, fun b o e => ?_⟩, os, bare⟩
      · by_cases hb : b = T
        · subst hb
          rw [hT] at e
          cases e
          exact .inr (.inl ⟨(hC.tab hT).isCodeTable, rfl, #[], more, rfl, by rw [Array.empty_append]; exact grown⟩)
        · exact .inl (others b o hb e)
      · by_cases hb : b = T
        · subst hb
          exact ⟨_, grown⟩
        · exact ⟨o, others b o hb e⟩
    | .error e, h => exact False.elim h
    | .ok .next, h => exact False.elim h
    | .ok .brk, h => exact False.elim h
    | .ok .cont, h => exact False.elim h
  have tT : (if T = T then some (HO.tbl #[]) else none) = some (HO.tbl #[]) := if_pos rfl
  cases hk : K.lookup a with
  | some o =>
    have e := kin a o hk
    rw [ha] at e
    cases e
    refine run (fun b => if b = T then some (.tbl #[]) else none) tT (.inr ⟨_, vs.toArray, _, hk, rfl, rfl, rfl, ?_, by simpa using rv⟩) (fun b u z => ?_) (fun b u z => ?_)
    · rw [List.size_toArray, hi.length]
      exact hl
    · dsimp only at z
      by_cases hb : b = T
      · rw [if_pos hb] at z
        cases z
        rw [hb]
        exact hT
      · rw [if_neg hb] at z
        cases z
    · skip
      by_cases hb : b = T
      · exact .inl hb
      · rw [if_neg hb] at z
        cases z
  | none =>
    refine run (fun b => if b = T then some (.tbl #[]) else if b = a then some (.frz { cls := .type "list", data := .seq vs.toArray } (.lst (ns.map V.int))) else none) (if_pos rfl) (.inl (.inr ⟨_, by dsimp only; rw [if_neg aT, if_pos rfl]⟩)) (fun b u z => ?_) fun b u z => ?_
    · dsimp only at z
      by_cases hb : b = T
      · rw [if_pos hb] at z
        cases z
        rw [hb]
        exact hT
      · rw [if_neg hb] at z
        by_cases hb2 : b = a
        · rw [if_pos hb2] at z
          cases z
          subst hb2
          exact ⟨ha, by rw [List.length_map]; exact hl, vs, _, rv, ha⟩
        · rw [if_neg hb2] at z
          cases z
    · skip
      by_cases hb : b = T
      · exact .inl hb
      · rw [if_neg hb] at z
        by_cases hb2 : b = a
        · rw [if_pos hb2] at z
          cases z
          exact .inr ⟨hb2, hk, _, _, rfl⟩
        · rw [if_neg hb2] at z
          cases z
theorem walk_gT {l : PySem.W.OpenLaw} {n k : Nat} {q : Program} {loose : List Str} {XP : (Str → Option Value) → Heap → Prop} {YP : World → Heap → Prop} {d : DefRec} {K : Params → PySem.W.Frag} {x : Str}
    (hn : l.most = some n) (hn2 : n ≤ sizeLine) (hdf : d.params.defaults = []) (hr : Room k callerA) (hrec : ((recsOf q).any fun e => e.name == d.name) = true) (hY : ∀ (w : World) (h : Heap), YP w h → (K w.params).In h)
    (F : ∀ (w : World) (mg : Str → Option Value) (fa : Addr) (h : Heap), (K w.params).In h → h.Ns mainGlobals mg → mg d.name = some (.ref fa) →
      ∃ (fd : FuncData) (T c : Addr) (o : Obj) (sp : Sp) (e : Value) (dd : Option Addr) (vs : Array Value) (sl : Array (Option Value)), (K w.params).lookup fa = some o ∧ o.data = .func fd ∧ fd.code = .ref c ∧ (K w.params).lookup c = some ⟨e, dd, .fields vs, sl⟩ ∧ vs[11]? = some (.ref T) ∧ (K w.params).lookup T = none ∧ (∀ (s : Shared) (u : Value), BindsTo s fd ⟨[u], []⟩ [(x, u)]) ∧
        (∀ (H : Hp) (a : Addr) (ns : List Int), ns.length ≤ n → H T = some (.tbl #[]) → SqL (K w.params) H a (ns.map V.int) → sp [.ref a] H (fun v _ => v = .bl true) fun _ _ _ => False) ∧
        ∀ base : Heap, (K w.params).In base → base.Ns mainGlobals mg → TabB base mg c T → FnG l.prog w (K w.params) mg base k fa fd [x] sp) :
    PySem.W.WalkO q loose XP YP l.row.toRowW d [] (fun f vs => PySem.call f vs) := by
  refine Att.attach_call hn hdf fun w s₀ s₁ mg mb fa o pm cd doc a vs ns G Y ho hd hcd hmg hobj hints hlen hg => ?_
  have kin := hY w _ Y
  obtain ⟨fd, T, c, o1, sp, e, dd, us, sl, k1, k2, k3, k4, k5, nT, h1, hs, h2⟩ := F w mg fa _ kin G.T.g hmg
  obtain ⟨dL, hm, hn1⟩ := List.any_eq_true.mp hrec
  have hn2' : dL.name = d.name := beq_iff_eq.mp hn1
  obtain ⟨a', o', fd', c', P', g1, g2, g3, g4, g5, g6⟩ := G.T.tab dL hm
  rw [hn2', hmg] at g1
  cases g1
  have q1 := kin _ _ k1
  rw [q1] at g2
  cases g2
  rw [k2] at g3
  cases g3
  rw [k3] at g4
  cases g4
  have hC := PySem.W.CodeHd.of g5 g6
  obtain ⟨⟨oc, vc, e1, _, e3, e4⟩, hP⟩ := g6
  have q2 := kin _ _ k4
  rw [q2] at e1
  cases e1
  cases e3
  rw [k5] at e4
  cases e4
  exact law_gT kin G.T.g G.T.b G.T.builtins G.T.nolimit hg hP nT hC G.T.bmain hobj hints (Nat.le_trans hlen hn2) hr h2 h1 fun H hHT hS => hs H a ns hlen hHT hS
end Hk
end S_We
section S_Qa
namespace P04
open PySem PySem.Spec PyProof.Rows L2 Tl Hk
def topS (i : Nat) : Stmt := PySem.Challenge.pw_threelanes_k04_texts_of_webs_bent.main.body.getD i (.Pass ⟨0, 0, 0, 0⟩)
abbrev sInteger : Stmt := topS 2
abbrev sWithin : Stmt := topS 3
abbrev sList : Stmt := topS 4
abbrev sRow : Stmt := topS 5
abbrev sUn : Stmt := topS 6
abbrev sLot : Stmt := topS 7
abbrev sNumC : Stmt := topS 10
abbrev sWebC : Stmt := topS 11
abbrev sTextC : Stmt := topS 12
abbrev sItemsOf : Stmt := topS 15
abbrev sNumberIn : Stmt := topS 16
abbrev sWant : Stmt := topS 18
abbrev sWeb : Stmt := topS 21
abbrev sAreTurns : Stmt := topS 22
abbrev sIsTurn : Stmt := topS 23
abbrev sTies : Stmt := topS 24
abbrev sTurnText : Stmt := topS 25
abbrev sTurnsIn : Stmt := topS 26
abbrev sTub : Stmt := topS 28
abbrev sScoop : Stmt := topS 29
abbrev sPick : Stmt := topS 30
abbrev sDrawn : Stmt := topS 37
abbrev sLText : Stmt := topS 38
abbrev sLNumber : Stmt := topS 39
abbrev sLLook : Stmt := topS 40
abbrev sLBent : Stmt := topS 41
abbrev sLRead : Stmt := topS 42
abbrev sLaw : Stmt := topS 43
/-- a plain value and the name of its type -/
inductive Ty7 (K : PySem.W.Frag) (H : Hp) : V → String → Prop where
  | non : Ty7 K H .non "NoneType"
  | bl (b : Bool) : Ty7 K H (.bl b) "bool"
  | int (i : Int) : Ty7 K H (.int i) "int"
  | str (s : Str) : Ty7 K H (.str s) "str"
  | lst {a : Addr} {xs : List V} (h : SqL K H a xs) : Ty7 K H (.ref a) "list"
  | tup {a : Addr} {xs : List V} (h : SqT K H a xs) : Ty7 K H (.ref a) "tuple"
  | dK {a : Addr} {kvs : List (L2.Key × V)} (h : H a = some (.dK kvs)) : Ty7 K H (.ref a) "dict"
section
variable {K : PySem.W.Frag} {H H' : Hp} {x : V} {n : String}
theorem Ty7.tyx (h : Ty7 K H x n) : TyX K H x (.type n) := by
  cases h with
  | non => exact .base .non
  | bl b => exact .base (.bl b)
  | int i => exact .base (.int i)
  | str s => exact .base (.str s)
  | lst h =>
    rcases h with (h | ⟨o, h⟩) | ⟨o, its, m, h1, h2, _⟩
    · exact .base (.lst h)
    · exact .base (.frz h)
    · exact .kList h1 h2
  | tup h =>
    rcases h with (h | ⟨o, h⟩) | ⟨o, its, m, h1, h2, _⟩
    · exact .base (.tup h)
    · exact .fTuple h
    · exact .kTuple h1 h2
  | dK h => exact .base (.dK h)
theorem Ty7.ex (h : Ty7 K H x n) (e : Evl.Ex H H') : Ty7 K H' x n := by
  cases h with
  | non => exact .non
  | bl b => exact .bl b
  | int i => exact .int i
  | str s => exact .str s
  | lst h => exact .lst (Evl.ex_l e h)
  | tup h => exact .tup (Evl.ex_t e h)
  | dK h => exact .dK (e _ _ h)
/-- isinstance of one built-in class -/
def is7 (n c : String) : Bool := (L2.kitB n c).getD false
theorem Ty7.kit (h : Ty7 K H x n) {c : String} (hc : c = "int" ∨ c = "bool" ∨ c = "list" ∨ c = "tuple") : PySem.W.kitOne K (.type n) (.type c) = some (is7 n c) := by
  refine kit_ty ?_
  rcases hc with rfl | rfl | rfl | rfl <;> cases h <;> decide +kernel
theorem Ty7.isInt (h : Ty7 K H x n) : (is7 n "int" && !is7 n "bool") = decide (n = "int") := by
  cases h <;> decide +kernel
theorem Ty7.isSeq (h : Ty7 K H x n) : (is7 n "list" || is7 n "tuple") = (decide (n = "list") || decide (n = "tuple")) := by
  cases h <;> decide +kernel
theorem rc_isi (h : Ty7 K H x n) {c : String} (hc : c = "int" ∨ c = "bool" ∨ c = "list" ∨ c = "tuple") : Evl.RC (rIsi K) [x, .ty c] H (.bl (is7 n c)) :=
  fun H1 e _ q => ⟨x, .ty c, .type n, .type c, is7 n c, rfl, .ty c, (h.ex e).tyx, (h.ex e).kit hc, q H1 (Evl.Ex.refl H1)⟩
theorem rv_isN : Evl.RV (fun x y H Q => y = .non ∧ Q (.bl (decide (x = .non))) H) x .non H (.bl (decide (x = .non))) := fun H1 _ _ q => ⟨rfl, q H1 (Evl.Ex.refl H1)⟩
end
/-- None, or an integer -/
def Bnd : V → Prop
  | .non => True
  | .int _ => True
  | _ => False
def okLo : V → Int → Bool
  | .int j, i => decide (j ≤ i)
  | _, _ => true
def okHi : V → Int → Bool
  | .int j, i => decide (i ≤ j)
  | _, _ => true
/-- whether it is an integer within the bounds -/
def wi : V → V → V → Bool
  | .int i, lo, hi => okLo lo i && okHi hi i
  | _, _, _ => false
def spInteger (K : PySem.W.Frag) : Sp := fun vs H Q _ => ∃ (x : V) (n : String), vs = [x] ∧ Ty7 K H x n ∧ ∀ H1, Evl.Ex H H1 → Q (.bl (decide (n = "int"))) H1
theorem spv_integer {K : PySem.W.Frag} {H : Hp} {x : V} {n : String} (h : Ty7 K H x n) : Evl.SpV (spInteger K) [x] H (.bl (decide (n = "int"))) := fun H1 e Q q E => ⟨x, n, rfl, h.ex e, q⟩
def spWithin (K : PySem.W.Frag) : Sp := fun vs H Q _ => ∃ (x lo hi : V) (n : String), vs = [x, lo, hi] ∧ Ty7 K H x n ∧ Bnd lo ∧ Bnd hi ∧ ∀ H1, Evl.Ex H H1 → Q (.bl (wi x lo hi)) H1
theorem spv_within {K : PySem.W.Frag} {H : Hp} {x lo hi : V} {n : String} (h : Ty7 K H x n) (h1 : Bnd lo) (h2 : Bnd hi) : Evl.SpV (spWithin K) [x, lo, hi] H (.bl (wi x lo hi)) := fun H1 e Q q E => ⟨x, lo, hi, n, rfl, h.ex e, h1, h2, q⟩
def spList (K : PySem.W.Frag) : Sp := fun vs H Q _ => ∃ (x : V) (n : String), vs = [x] ∧ Ty7 K H x n ∧ ∀ H1, Evl.Ex H H1 → Q (.bl (decide (n = "list") || decide (n = "tuple"))) H1
theorem spv_list {K : PySem.W.Frag} {H : Hp} {x : V} {n : String} (h : Ty7 K H x n) : Evl.SpV (spList K) [x] H (.bl (decide (n = "list") || decide (n = "tuple"))) := fun H1 e Q q E => ⟨x, n, rfl, h.ex e, q⟩
theorem scInteger : FnScope ["value"] ["value"] (defScope sInteger) := ⟨rfl, rfl, rfl, by decide +kernel, rfl, by decide +kernel, by decide +kernel⟩
theorem scWithin : FnScope ["value", "least", "most"] ["value", "least", "most"] (defScope sWithin) := ⟨rfl, rfl, rfl, by decide +kernel, rfl, by decide +kernel, by decide +kernel⟩
theorem scList : FnScope ["value"] ["value"] (defScope sList) := ⟨rfl, rfl, rfl, by decide +kernel, rfl, by decide +kernel, by decide +kernel⟩
section
variable {P : Program} {w : World} {K : PySem.W.Frag} {mg : Str → Option Value} {base : Heap}
theorem ok_integer {f : Addr} {fd : FuncData} {k : Nat} (F : Fun K "is_integer" "is_integer" sInteger f fd) (mi : mg "isinstance" = none) (mint : mg "int" = none) (mbool : mg "bool" = none) : FnOk P w K mg base CX0 (k + 1) f fd ["value"] (spInteger K) := by
  refine F.ok scInteger (fun vs H Q E h => ?_) (fun cdv A outer s H vs Q E hr h => ?_)
  · obtain ⟨x, n, rfl, _⟩ := h
    rfl
  · obtain ⟨x, n, rfl, h, q⟩ := h
    refine ⟨_, pss_one (ps_ret (pe_and (pe_callB call_isi (by rfl) mi (by decide +kernel) (pa_cons (pv 0) (pa_cons (pe_bltn (v := .ty "int") (by rfl) mint (by decide +kernel) rfl) pa_nil)))
      (pe_one (pe_not (pe_callB call_isi (by rfl) mi (by decide +kernel) (pa_cons (pv 0) (pa_cons (pe_bltn (v := .ty "bool") (by rfl) mbool (by decide +kernel) rfl) pa_nil))))))), ?_⟩
    refine Evl.s_ret (v := .bl (is7 n "int" && !is7 n "bool")) (Evl.ev_andV (Evl.ev_cb (Evl.ea_cons (Evl.ev_var rfl) (Evl.ea_cons Evl.ev_c Evl.ea_nil)) (rc_isi h (.inl rfl))) fun _ =>
      Evl.ev_notV (Evl.ev_cb (Evl.ea_cons (Evl.ev_var rfl) (Evl.ea_cons Evl.ev_c Evl.ea_nil)) (rc_isi h (.inr (.inl rfl))))) fun H1 e1 => ?_
    rw [h.isInt]
    exact q H1 e1
theorem ok_list {f : Addr} {fd : FuncData} {k : Nat} (F : Fun K "is_list" "is_list" sList f fd) (mi : mg "isinstance" = none) (ml : mg "list" = none) (mt : mg "tuple" = none) : FnOk P w K mg base CX0 (k + 1) f fd ["value"] (spList K) := by
  refine F.ok scList (fun vs H Q E h => ?_) (fun cdv A outer s H vs Q E hr h => ?_)
  · obtain ⟨x, n, rfl, _⟩ := h
    rfl
  · obtain ⟨x, n, rfl, h, q⟩ := h
    refine ⟨_, pss_one (ps_ret (pe_callB call_isiT (by rfl) mi (by decide +kernel) (pa_cons (pv 0) (pa_cons (pe_tup (pa_cons (pe_bltn (v := .ty "list") (by rfl) ml (by decide +kernel) rfl) (pa_cons (pe_bltn (v := .ty "tuple") (by rfl) mt (by decide +kernel) rfl) pa_nil))) pa_nil)))), ?_⟩
    refine ⟨x, rfl, (by show 2 ≤ sizeLine; decide), fun T hT => ⟨x, T, [.ty "list", .ty "tuple"], .type n, [.type "list", .type "tuple"], is7 n "list" || is7 n "tuple", rfl, upd_same, .cons (.ty _) (.cons (.ty _) .nil), (h.ex (Evl.Ex.new hT)).tyx, ?_, ?_⟩⟩
    · refine kitAny_cons (h.kit (.inr (.inr (.inl rfl)))) (fun hb => kitAny_cons (h.kit (.inr (.inr (.inr rfl)))) (fun hb2 => ?_) fun hb2 => ?_) fun hb => ?_
      · rw [hb, hb2]; exact kitAny_nil
      · rw [hb2, Bool.or_true]
      · rw [hb, Bool.true_or]
    · show Q _ _
      rw [h.isSeq]
      exact q _ (Evl.Ex.new hT)
theorem ok_within {f fI : Addr} {fd fdI : FuncData} {k : Nat} (F : Fun K "is_within" "is_within" sWithin f fd) (FI : Fun K "is_integer" "is_integer" sInteger fI fdI) (GI : FnOk P w K mg base CX0 k fI fdI ["value"] (spInteger K)) (bI : Binds K fdI ["value"] []) (gI : mg "is_integer" = some (.ref fI)) :
    FnOk P w K mg base CX0 (k + 1) f fd ["value", "least", "most"] (spWithin K) := by
  refine F.ok scWithin (fun vs H Q E h => ?_) (fun cdv A outer s H vs Q E hr h => ?_)
  · obtain ⟨x, lo, hi, n, rfl, _⟩ := h
    rfl
  · obtain ⟨x, lo, hi, n, rfl, h, hlo, hhi, q⟩ := h
    refine ⟨_, pss_cons (ps_if (pt_not (pt_val (pe_call GI hr (by rfl) gI FI.kp bI .nil pass0 (pa_cons (pv 0) pa_nil)))) (pss_one (ps_ret pe_bl)) pss_nil)
      (pss_one (ps_ret (pe_and (pe_or (pe_cmpR op_isN (pv 1) pe_non (nomark _)) (pe_one (pe_cmpR op_ge (pv 0) (pv 1) (nomark _)))) (pe_one (pe_or (pe_cmpR op_isN (pv 2) pe_non (nomark _)) (pe_one (pe_cmpR op_le (pv 0) (pv 2) (nomark _)))))))), ?_⟩
    refine Evl.q_when (Evl.et_not (Evl.et_B (Evl.ev_call (Evl.ea_cons (Evl.ev_var rfl) Evl.ea_nil) (spv_integer h)))) (fun hb H1 e1 => ?_) (fun hb H1 e1 => ?_)
    · refine Evl.s_ret Evl.ev_c fun H2 e2 => ?_
      have hw : wi x lo hi = false := by
        cases h with
        | int i => exact absurd hb (by decide)
        | _ => rfl
      rw [← hw]
      exact q H2 (e1.trans e2)
    · cases h with
      | int i =>
        have hA : Evl.Ev (tOrV (tOp (fun x y H Q => y = .non ∧ Q (.bl (decide (x = .non))) H) (tVar 1) (tC .non)) (tOp (rI0 fun i j => V.bl (decide (j ≤ i))) (tVar 0) (tVar 1))) (start ["value", "least", "most"] [.int i, lo, hi]) H1 (.bl (okLo lo i)) := by
          cases lo with
          | non => exact Evl.ev_is (Evl.ev_orV (b := true) (Evl.ev_op (Evl.ev_var rfl) Evl.ev_c rv_isN) fun z => absurd z (by decide)) rfl
          | int j => exact Evl.ev_is (Evl.ev_orV (Evl.ev_op (Evl.ev_var rfl) Evl.ev_c rv_isN) fun _ => Evl.ev_op (Evl.ev_var rfl) (Evl.ev_var rfl) Evl.rv_I0) (by rw [show decide (V.int j = V.non) = false from rfl] <;> rfl)
          | _ => exact hlo.elim
        have hB : Evl.Ev (tOrV (tOp (fun x y H Q => y = .non ∧ Q (.bl (decide (x = .non))) H) (tVar 2) (tC .non)) (tOp (rI0 fun i j => V.bl (decide (i ≤ j))) (tVar 0) (tVar 2))) (start ["value", "least", "most"] [.int i, lo, hi]) H1 (.bl (okHi hi i)) := by
          cases hi with
          | non => exact Evl.ev_is (Evl.ev_orV (b := true) (Evl.ev_op (Evl.ev_var rfl) Evl.ev_c rv_isN) fun z => absurd z (by decide)) rfl
          | int j => exact Evl.ev_is (Evl.ev_orV (Evl.ev_op (Evl.ev_var rfl) Evl.ev_c rv_isN) fun _ => Evl.ev_op (Evl.ev_var rfl) (Evl.ev_var rfl) Evl.rv_I0) (by rw [show decide (V.int j = V.non) = false from rfl] <;> rfl)
          | _ => exact hhi.elim
        exact Evl.s_ret (Evl.ev_andV hA fun _ => hB) fun H2 e2 => q H2 (e1.trans e2)
      | _ => exact absurd hb (by decide)
end

theorem ev_allN {K : PySem.W.Frag} {ta : TE} {σ : L2.St} {H : Hp} {bs : List Bool} (h : Evl.EvL ta σ H (bs.map V.bl)) : Evl.Ev (tCB (rAll K) (tCons ta tNil)) σ H (.bl (bs.all id)) := fun H1 e Q q =>
  h H1 e _ fun p H2 _ e2 h2 => ⟨p, bs, rfl, Evl.sq_of h2, q H2 e2⟩
/-- a comprehension over a tuple that stands -/
theorem el_lcT {K : PySem.W.Frag} {a : Addr} {xs : List V} {tl te : TE} {t : TT} {σ : L2.St} {H : Hp} {j : Nat} {vs : List Nat} (f : Nat → Bool) (v : Nat → V) (h : Evl.Ev tl σ H (.ref a)) (hx : SqT K H a xs) (hz : xs.length ≤ 40000)
    (hw : ∀ x, wipe ((wipe σ vs).set j (some x)) vs = wipe σ vs) (ht : ∀ (i : Nat) (x : V) H1, Evl.Ex H H1 → xs[i]? = some x → Evl.EvT t ((wipe σ vs).set j (some x)) H1 (f i))
    (he : ∀ (i : Nat) (x : V) H1, Evl.Ex H H1 → xs[i]? = some x → f i = true → Evl.Ev te ((wipe σ vs).set j (some x)) H1 (v i)) : Evl.EvL (tLc (iTup K tl) (gName j) t te vs) σ H (Evl.given xs.length f v) := by
  intro H0 e Q q
  refine h H0 e _ fun H1 e1 => ⟨a, rfl, ⟨xs, Evl.ex_t (e.trans e1) hx⟩, fun Dl hD => lc_tup (xs := xs) (Evl.Cw H1 f v Dl) ⟨hD, Evl.Ex.new hD, upd_same⟩ (fun i H' _ p => Evl.ex_t ((e.trans e1).trans p.2.1) hx) (fun i x H' hi p => ⟨hw x, ?_⟩) fun H' p => q Dl H' (Evl.fresh_back e1 p.1) (e1.trans p.2.1) p.2.2⟩
  have hlt := (List.getElem?_eq_some_iff.mp hi).1
  exact Evl.cw_turn p (by omega) (ht i x H1 (e.trans e1) hi) fun hf => he i x H1 (e.trans e1) hi hf

end P04
end S_Qa
section S_Qb
namespace P04
open PySem PySem.Spec PyProof.Rows L2 Tl Hk
theorem scScoop : FnScope ["kiosk", "many", "rest", "turn", "cell", "mixed"] ["kiosk", "many"] (defScope sScoop) := ⟨rfl, rfl, rfl, by decide +kernel, rfl, by decide +kernel, by decide +kernel⟩

/-- all but the object at t is as it was -/
def Kept (t : Addr) (H H' : Hp) : Prop := ∀ a o, a ≠ t → H a = some o → H' a = some o
theorem Kept.refl (t : Addr) (H : Hp) : Kept t H H := fun _ _ _ h => h
theorem Kept.trans {t : Addr} {H H1 H2 : Hp} (a : Kept t H H1) (b : Kept t H1 H2) : Kept t H H2 := fun x o n h => b x o n (a x o n h)
theorem Kept.of {t : Addr} {H H' : Hp} (e : Same H H') : Kept t H H' := fun x o _ h => e x o h
theorem Kept.upd (t : Addr) (H : Hp) (o : HO) : Kept t H (upd H t o) := fun a u n e => by
  rw [upd_ne n]
  exact e
theorem Kept.seq {K : PySem.W.Frag} {t : Addr} {H H' : Hp} {c : Addr} {xs : List V} (k : Kept t H H') (n : c ≠ t) (h : SqL K H c xs) : SqL K H' c xs := by
  rcases h with (h | ⟨o, h⟩) | h
  · exact .inl (.inl (k _ _ n h))
  · exact .inl (.inr ⟨o, k _ _ n h⟩)
  · exact .inr h
/-- the drawer of numbers at t: its cells at c, its turn of n at most, its rest -/
def Tub (H : Hp) (t c : Addr) (n : Nat) : Prop := ∃ (cs : List Int) (turn rest : Int),
  H t = some (.lst [.ref c, .int turn, .int rest]) ∧ H c = some (.lst (cs.map V.int)) ∧ c ≠ t ∧ cs.length ≤ 60 ∧ 0 ≤ turn ∧ turn ≤ n ∧ 0 ≤ rest
theorem Tub.mono {H : Hp} {t c : Addr} {n m : Nat} (T : Tub H t c n) (h : n ≤ m) : Tub H t c m := by
  obtain ⟨cs, turn, rest, h1, h2, h3, h4, h5, h6, h7⟩ := T
  exact ⟨cs, turn, rest, h1, h2, h3, h4, h5, by omega, h7⟩
theorem Tub.same {H H' : Hp} {t c : Addr} {n : Nat} (T : Tub H t c n) (e : Same H H') : Tub H' t c n := by
  obtain ⟨cs, turn, rest, h1, h2, h3, h4, h5, h6, h7⟩ := T
  exact ⟨cs, turn, rest, e _ _ h1, e _ _ h2, h3, h4, h5, h6, h7⟩
theorem Tub.ne {H : Hp} {t c p : Addr} {n : Nat} (T : Tub H t c n) (h : H p = none) : p ≠ t ∧ p ≠ c := by
  obtain ⟨cs, turn, rest, h1, h2, _⟩ := T
  exact ⟨(ne_of_none h1 h).symm, (ne_of_none h2 h).symm⟩
/-- an object that is neither of the drawer's two may change -/
theorem Tub.upd {H : Hp} {t c p : Addr} {n : Nat} {o : HO} (T : Tub H t c n) (h1 : p ≠ t) (h2 : p ≠ c) : Tub (upd H p o) t c n := by
  obtain ⟨cs, turn, rest, a1, a2, h⟩ := T
  refine ⟨cs, turn, rest, ?_, ?_, h⟩
  · rw [upd_ne h1.symm]
    exact a1
  · rw [upd_ne h2.symm]
    exact a2
theorem same_new {H : Hp} {p : Addr} {o : HO} (h : H p = none) : Same H (upd H p o) := fun b x e => by
  rw [upd_ne (ne_of_none e h)]
  exact e

open Evl in
theorem kept_ex {t : Addr} {H H' : Hp} (e : Evl.Ex H H') : Kept t H H' := fun x o _ h => e x o h
theorem Tub.ex {H H' : Hp} {t c : Addr} {n : Nat} (T : Tub H t c n) (e : Evl.Ex H H') : Tub H' t c n := T.same e
section
open Evl
variable {K : PySem.W.Frag} {σ : L2.St} {H H' : Hp} {ta tb te : TE} {x y z v : V}
theorem ev_int {i : Int} (h : Ev ta σ H (.int i)) : Ev (tCB (fun xs H Q => (∃ i, xs = [V.int i] ∧ Q (V.int i) H) ∨ ∃ k, xs = [V.bl k] ∧ Q (V.int (if k = true then 1 else 0)) H) (tCons ta tNil)) σ H (.int i) :=
  ev_cb (ea_cons h ea_nil) fun H1 _ _ q => .inl ⟨i, rfl, q H1 (Ex.refl H1)⟩
theorem ev_intB {b : Bool} (h : Ev ta σ H (.bl b)) : Ev (tCB (fun xs H Q => (∃ i, xs = [V.int i] ∧ Q (V.int i) H) ∨ ∃ k, xs = [V.bl k] ∧ Q (V.int (if k = true then 1 else 0)) H) (tCons ta tNil)) σ H (.int (if b = true then 1 else 0)) :=
  ev_cb (ea_cons h ea_nil) fun H1 _ _ q => .inr ⟨b, rfl, q H1 (Ex.refl H1)⟩
theorem ev_abs {i : Int} (h : Ev ta σ H (.int i)) : Ev (tCB (fun xs H Q => ∃ i, xs = [V.int i] ∧ Q (V.int (if i < 0 then -i else i)) H) (tCons ta tNil)) σ H (.int (if i < 0 then -i else i)) :=
  ev_cb (ea_cons h ea_nil) fun H1 _ _ q => ⟨i, rfl, q H1 (Ex.refl H1)⟩
theorem dp_ints {c : Addr} : ∀ (cs : List Int), DpAll K H (cs.map V.int) (cs.map PyData.int)
  | [] => .nil
  | i :: r => .cons (.int i) (dp_ints (c := c) r)
/-- a list of ints is not the empty one -/
theorem ev_neNil {c : Addr} {cs : List Int} (h : Ev ta σ H (.ref c)) (hc : SqL K H c (cs.map V.int)) : Ev (tOp (rNeD K) ta (tLst tNil)) σ H (.bl (!cs.isEmpty)) :=
  ev_opL (xs := []) h (el_lst ea_nil (Nat.zero_le _)) fun p H1 hp e => fun H2 e2 Q q => by
    refine ⟨.list (cs.map PyData.int), .list [], .lst (ex_l (e.trans e2) hc) (dp_ints (c := c) cs), .lst (sq_of (e2 _ _ hp)) .nil, PySem.W.ke_shaped_ints cs, by decide +kernel, ?_⟩
    have e3 : PyData.eqv (.list (cs.map PyData.int)) (.list []) = cs.isEmpty := by cases cs <;> rfl
    rw [e3]
    exact q H2 (Ex.refl H2)
theorem ev_eqNil {c : Addr} {cs : List Int} (h : Ev ta σ H (.ref c)) (hc : SqL K H c (cs.map V.int)) : Ev (tOp (rEqD K) ta (tLst tNil)) σ H (.bl cs.isEmpty) :=
  ev_opL (xs := []) h (el_lst ea_nil (Nat.zero_le _)) fun p H1 hp e => fun H2 e2 Q q => by
    refine ⟨.list (cs.map PyData.int), .list [], .lst (ex_l (e.trans e2) hc) (dp_ints (c := c) cs), .lst (sq_of (e2 _ _ hp)) .nil, PySem.W.ke_shaped_ints cs, by decide +kernel, ?_⟩
    have e3 : PyData.eqv (.list (cs.map PyData.int)) (.list []) = cs.isEmpty := by cases cs <;> rfl
    rw [e3]
    exact q H2 (Ex.refl H2)
theorem fmod_pos {a b : Int} (hb : 1 ≤ b) : 0 ≤ a.fmod b ∧ a.fmod b < b := by
  rw [Int.fmod_eq_emod_of_nonneg a (by omega)]
  exact ⟨Int.emod_nonneg _ (by omega), Int.emod_lt_of_pos _ (by omega)⟩
theorem fdiv_pos {a b : Int} (ha : 0 ≤ a) (hb : 1 ≤ b) : 0 ≤ a.fdiv b := by
  rw [Int.fdiv_eq_ediv_of_nonneg a (by omega)]
  exact Int.ediv_nonneg ha (by omega)
theorem mix_a {x turn : Int} (hx0 : 0 ≤ x) (hx : x < 2147483648) (h0 : 0 ≤ turn) (h1 : turn ≤ 1000000) : (x + 30347 * turn + 9341).natAbs < 2 ^ 64 := by omega
theorem mix_b {m turn : Int} (hm0 : 0 ≤ m) (hm : m < 2147483648) (h0 : 0 ≤ turn) (h1 : turn ≤ 1000000) : (m * (2 * turn + 3691) + 64109 * turn * turn + 30347).natAbs < 2 ^ 64 := by
  have a1 : m * (2 * turn + 3691) ≤ 2147483648 * 2003691 := Int.mul_le_mul (by omega) (by omega) (by omega) (by omega)
  have a2 : 0 ≤ m * (2 * turn + 3691) := Int.mul_nonneg hm0 (by omega)
  have b1 : 64109 * turn * turn ≤ 64109000000 * 1000000 := Int.mul_le_mul (by omega) (by omega) (by omega) (by omega)
  have b2 : 0 ≤ 64109 * turn * turn := Int.mul_nonneg (by omega) (by omega)
  generalize m * (2 * turn + 3691) = p at *
  generalize 64109 * turn * turn = r at *
  omega
theorem cell_at (cs : List Int) (turn d : Int) (h0 : 0 ≤ turn) : ∃ z, (cs.isEmpty = false → atI (cs.map V.int) (turn.fmod ((cs.map V.int).length : Int)) = some (.int z)) ∧ (cs.isEmpty = true → z = d) := by
  cases cs with
  | nil => exact ⟨d, fun h => (nomatch h), fun _ => rfl⟩
  | cons x r =>
    have hb := fmod_pos (a := turn) (b := (((x :: r).map V.int).length : Int)) (by rw [List.length_map, List.length_cons]; omega)
    obtain ⟨j, hj⟩ : ∃ j : Nat, turn.fmod (((x :: r).map V.int).length : Int) = (j : Int) := ⟨(turn.fmod (((x :: r).map V.int).length : Int)).toNat, by omega⟩
    rw [hj] at hb ⊢
    have hl : j < (x :: r).length := by
      rw [List.length_map] at hb
      omega
    refine ⟨(x :: r)[j], fun _ => atI_nat ?_, fun h => (nomatch h)⟩
    rw [List.getElem?_map, List.getElem?_eq_getElem hl]
    rfl
end

def spScoop : Sp := fun vs H Q _ => ∃ (t c : Addr) (many : Int) (n : Nat), vs = [.ref t, .int many] ∧ Tub H t c n ∧ n ≤ 1000000 ∧ 1 ≤ many ∧ many ≤ 100000 ∧
  ∀ r H', 0 ≤ r → r < many → Kept t H H' → Tub H' t c (n + 1) → Q (.int r) H'
section
variable {P : Program} {w : World} {K : PySem.W.Frag} {mg : Str → Option Value} {base : Heap}
theorem ok_scoop {f : Addr} {fd : FuncData} {k : Nat} (F : Fun K "_law_ticket" "_law_ticket" sScoop f fd) (mint : mg "int" = none) (mlen : mg "len" = none) (mabs : mg "abs" = none) : FnOk P w K mg base CX0 (k + 1) f fd ["kiosk", "many"] spScoop := by
  refine F.ok scScoop (fun vs H Q E h => ?_) (fun cdv A outer s H vs Q E hr h => ?_)
  · obtain ⟨t, c, m, n, rfl, _⟩ := h
    rfl
  · obtain ⟨t, c, many, n, rfl, hT, hn, hm1, hm2, q⟩ := h
    have nd := scScoop.nd
    refine ⟨_, pss_cons (ps_if (pt_cmpR (op_eqD hr.units) (pe_ix ix_list (pv 0) pe_int (fun _ _ => rfl)) (pe_lst pa_nil) (nomark _)) (pss_one (ps_ret pe_int)) pss_nil)
      (pss_cons (ps_if (pt_cmpR op_gt (pe_ix ix_list (pv 0) pe_int (fun _ _ => rfl)) pe_int (nomark _))
        (pss_cons (ps_set (i := 2) nd rfl (.inl rfl) (pe_callTy call_int1 (by rfl) mint (by decide +kernel) (pa_cons (pe_ix ix_list (pv 0) pe_int (fun _ _ => rfl)) pa_nil)))
        (pss_cons (ps_asg (pe_op op_fdivN (pv 2) (pv 1)) (pg_sub (pv 0) pe_int set_list))
        (pss_one (ps_ret (pe_op op_modN (pe_callTy call_int1 (by rfl) mint (by decide +kernel) (pa_cons (pv 2) pa_nil)) (pv 1)))))) pss_nil)
      (pss_cons (ps_set (i := 3) nd rfl (.inl rfl) (pe_ix ix_list (pv 0) pe_int (fun _ _ => rfl)))
      (pss_cons (ps_asg (pe_op op_add (pv 3) pe_int) (pg_sub (pv 0) pe_int set_list))
      (pss_cons (ps_set (i := 4) nd rfl (.inl rfl) (pe_ix ix_list (pe_ix ix_list (pv 0) pe_int (fun _ _ => rfl)) (pe_op op_modN (pe_callTy call_int1 (by rfl) mint (by decide +kernel) (pa_cons (pv 3) pa_nil)) (pe_callB call_len_seq (by rfl) mlen PySem.boot_len (pa_cons (pe_ix ix_list (pv 0) pe_int (fun _ _ => rfl)) pa_nil))) (fun _ _ => rfl)))
      (pss_cons (ps_if (PW.pt (pw_and (pt_cmpR op_lt (pv 3) (pe_callB call_len_seq (by rfl) mlen PySem.boot_len (pa_cons (pe_ix ix_list (pv 0) pe_int (fun _ _ => rfl)) pa_nil)) (nomark _)) (pw_and1 (pt_cmpR op_ge (pe_callB call_abs (by rfl) mabs (by decide +kernel) (pa_cons (pv 4) pa_nil)) (pe_op op_pow pe_int pe_int) (nomark _)))))
        (pss_cons (ps_set (i := 2) nd rfl (.inl rfl) (pe_op op_add (pe_op op_mul pe_int (pe_op op_sub (pe_callB call_abs (by rfl) mabs (by decide +kernel) (pa_cons (pv 4) pa_nil)) (pe_op op_pow pe_int pe_int))) (pe_callTy call_int1 (by rfl) mint (by decide +kernel) (pa_cons (pe_cmpR op_lt (pv 4) pe_int (nomark _)) pa_nil))))
        (pss_cons (ps_asg (pe_op op_fdivN (pe_callTy call_int1 (by rfl) mint (by decide +kernel) (pa_cons (pv 2) pa_nil)) (pv 1)) (pg_sub (pv 0) pe_int set_list))
        (pss_one (ps_ret (pe_op op_modN (pe_callTy call_int1 (by rfl) mint (by decide +kernel) (pa_cons (pv 2) pa_nil)) (pv 1)))))) pss_nil)
      (pss_cons (ps_set (i := 5) nd rfl (.inl rfl) (pe_op op_modN (pe_callTy call_int1 (by rfl) mint (by decide +kernel) (pa_cons (pe_op op_pow (pe_op op_add (pe_op op_add (pe_op op_modN (pe_callTy call_int1 (by rfl) mint (by decide +kernel) (pa_cons (pv 4) pa_nil)) pe_int) (pe_op op_mul pe_int (pv 3))) pe_int) pe_int) pa_nil)) pe_int))
      (pss_cons (ps_set (i := 5) nd rfl (.inl rfl) (pe_op op_modN (pe_callTy call_int1 (by rfl) mint (by decide +kernel) (pa_cons (pe_op op_pow (pe_op op_add (pe_op op_add (pe_op op_mul (pv 5) (pe_op op_add (pe_op op_mul pe_int (pv 3)) pe_int)) (pe_op op_mul (pe_op op_mul pe_int (pv 3)) (pv 3))) pe_int) pe_int) pa_nil)) pe_int))
      (pss_one (ps_ret (pe_op op_modN (pe_callTy call_int1 (by rfl) mint (by decide +kernel) (pa_cons (pe_op op_fdivN (pv 5) pe_int) pa_nil)) (pv 1))))))))))), ?_⟩
    obtain ⟨cs, turn, rest, ht, hc, hct, hcl, hu0, hun, hr0⟩ := hT
    have tubAt : ∀ {σ : L2.St} {H' : Hp} {j : Nat} {v : V} {xs : List V}, σ[0]? = some (some (.ref t)) → H' t = some (.lst xs) → xs[j]? = some v → Evl.Ev (tOp (rIxL K) (tVar 0) (tC (.int (j : Int)))) σ H' v :=
      fun hs h hv => Evl.ev_op (Evl.ev_var hs) Evl.ev_c (Evl.rv_ixL (Evl.sq_of h) (atI_nat hv))
    have turnS : turn ≤ 1000000 := by omega
    refine Evl.q_when (b := cs.isEmpty) (Evl.et_test (ev_eqNil (tubAt (j := 0) rfl ht rfl) (Evl.sq_of hc))) (fun _ H0 e0 => Evl.s_ret Evl.ev_c fun H1 e1 => q 0 H1 (Int.le_refl _) (by omega) (kept_ex (e0.trans e1)) ((Tub.ex ⟨cs, turn, rest, ht, hc, hct, hcl, hu0, hun, hr0⟩ (e0.trans e1)).mono (by omega))) fun hce H0 e0 => ?_
    have ht0 := e0 _ _ ht
    have hc0 := e0 _ _ hc
    have k0 : Kept t H H0 := kept_ex e0
    refine Evl.q_when (b := decide (0 < rest)) (Evl.et_test (Evl.ev_op (tubAt (j := 2) rfl ht0 rfl) Evl.ev_c Evl.rv_I0)) (fun hb H1 e1' => ?_) (fun hb H1 e1' => ?_)
    · have e1 := e0.trans e1'
      refine Evl.q_asg (ev_int (tubAt (j := 2) rfl (e1 _ _ ht) rfl)) fun H2 e2 => ?_
      refine Evl.q_setL (l := t) (j := 2) (e2 _ _ (e1 _ _ ht)) (Evl.ev_op (Evl.ev_var rfl) (Evl.ev_var rfl) (Evl.rv_I ⟨by omega, by omega⟩)) (Evl.ev_var rfl) Evl.ev_c (by show 2 < 3; omega) fun H3 e3 => ?_
      refine Evl.s_ret (Evl.ev_op (ev_int (Evl.ev_var rfl)) (Evl.ev_var rfl) (Evl.rv_I (by omega))) fun H4 e4 => ?_
      have e13 := (e1.trans e2).trans e3
      refine q _ _ (fmod_pos hm1).1 (fmod_pos hm1).2 (((kept_ex e13).trans (Kept.upd t H3 _)).trans (kept_ex e4)) (Tub.ex ?_ e4)
      exact ⟨cs, turn, rest.fdiv many, upd_same, Kept.upd t H3 _ _ _ hct (e13 _ _ hc), hct, hcl, hu0, by omega, fdiv_pos hr0 hm1⟩
    · have e1 := e0.trans e1'
      clear e1' k0 hc0 ht0
      refine Evl.q_asg (tubAt (j := 1) rfl (e1 _ _ ht) rfl) fun H2 e2 => ?_
      refine Evl.q_setL (l := t) (j := 1) (e2 _ _ (e1 _ _ ht)) (Evl.ev_op (Evl.ev_var rfl) Evl.ev_c Evl.rv_I0) (Evl.ev_var rfl) Evl.ev_c (by show 1 < 3; omega) fun H3 e3 => ?_
      have e13 := (e1.trans e2).trans e3
      have k3 : Kept t H (upd H3 t (.lst [.ref c, .int (turn + 1), .int rest])) := (kept_ex e13).trans (Kept.upd t H3 _)
      have h3 : (upd H3 t (.lst [.ref c, .int (turn + 1), .int rest])) t = some (.lst [.ref c, .int (turn + 1), .int rest]) := upd_same
      show tSeq _ _ _ _ (upd H3 t (.lst [.ref c, .int (turn + 1), .int rest]))
      generalize upd H3 t (.lst [.ref c, .int (turn + 1), .int rest]) = H3' at k3 h3 ⊢
      have hc3 : H3' c = some (.lst (cs.map V.int)) := k3 _ _ hct hc
      obtain ⟨cell, z1, z2⟩ := cell_at cs turn (64109 * turn + 9341) hu0
      have hne : ((cs.map V.int).length : Int) ≠ 0 := by
        rw [List.length_map]
        cases cs with
        | nil => cases hce
        | cons x r => rw [List.length_cons]; omega
      refine Evl.q_asg (v := .int cell) (Evl.ev_op (tubAt (j := 0) rfl h3 rfl) (Evl.ev_op (ev_int (Evl.ev_var rfl)) (Evl.ev_len (tubAt (j := 0) rfl h3 rfl) (Evl.sq_of hc3)) (Evl.rv_I hne)) (Evl.rv_ixL (Evl.sq_of hc3) (z1 hce))) fun H5 e35 => ?_
      have k5 : Kept t H H5 := k3.trans (kept_ex e35)
      have h5 := e35 _ _ h3
      have hc5 := e35 _ _ hc3
      clear e35 h3 hc3 k3 e1 e2 e3 e13 e0
      refine Evl.q_when (Evl.et_and (Evl.et_test (Evl.ev_op (Evl.ev_var rfl) (Evl.ev_len (tubAt (j := 0) rfl h5 rfl) (Evl.sq_of hc5)) Evl.rv_I0)) fun _ => Evl.et_test (Evl.ev_op (ev_abs (Evl.ev_var rfl)) (Evl.ev_op Evl.ev_c Evl.ev_c (Evl.rv_I ⟨by decide, by decide, by decide⟩)) Evl.rv_I0)) (fun hb H6 e6 => ?_) (fun hb H6 e6 => ?_)
      · have hb2 := (Bool.and_eq_true_iff.mp hb).2
        have hbig : (10 : Int) ^ 18 ≤ (if cell < 0 then -cell else cell) := of_decide_eq_true hb2
        refine Evl.q_asg (Evl.ev_op (Evl.ev_op Evl.ev_c (Evl.ev_op (ev_abs (Evl.ev_var rfl)) (Evl.ev_op Evl.ev_c Evl.ev_c (Evl.rv_I ⟨by decide, by decide, by decide⟩)) Evl.rv_I0) (Evl.rv_I (.inl ⟨by decide, by decide⟩))) (ev_intB (Evl.ev_op (Evl.ev_var rfl) Evl.ev_c Evl.rv_I0)) Evl.rv_I0) fun H7 e7 => ?_
        have hr2 : (0 : Int) ≤ 2 * ((if cell < 0 then -cell else cell) - 10 ^ (18 : Int).toNat) + (if decide (cell < 0) = true then 1 else 0) := by
          have e18 : (18 : Int).toNat = 18 := rfl
          rw [e18]
          split <;> omega
        generalize (2 * ((if cell < 0 then -cell else cell) - 10 ^ (18 : Int).toNat) + (if decide (cell < 0) = true then 1 else 0) : Int) = rest2 at hr2 ⊢
        refine Evl.q_setL (l := t) (j := 2) (e7 _ _ (e6 _ _ h5)) (Evl.ev_op (ev_int (Evl.ev_var rfl)) (Evl.ev_var rfl) (Evl.rv_I ⟨by omega, by omega⟩)) (Evl.ev_var rfl) Evl.ev_c (by show 2 < 3; omega) fun H8 e8 => ?_
        refine Evl.s_ret (Evl.ev_op (ev_int (Evl.ev_var rfl)) (Evl.ev_var rfl) (Evl.rv_I (by omega))) fun H9 e9 => ?_
        have e68 := (e6.trans e7).trans e8
        refine q _ _ (fmod_pos hm1).1 (fmod_pos hm1).2 (((k5.trans (kept_ex e68)).trans (Kept.upd t H8 _)).trans (kept_ex e9)) (Tub.ex ?_ e9)
        exact ⟨cs, turn + 1, rest2.fdiv many, upd_same, Kept.upd t H8 _ _ _ hct (e68 _ _ hc5), hct, hcl, by omega, by omega, fdiv_pos hr2 hm1⟩
      · have c1 := fmod_pos (a := cell) (b := 2147483423) (by decide)
        refine Evl.q_asg (Evl.ev_op (ev_int (Evl.ev_op (Evl.ev_op (Evl.ev_op (Evl.ev_op (ev_int (Evl.ev_var rfl)) Evl.ev_c (Evl.rv_I (by decide))) (Evl.ev_op Evl.ev_c (Evl.ev_var rfl) (Evl.rv_I (.inl ⟨by decide, by decide⟩))) Evl.rv_I0) Evl.ev_c Evl.rv_I0) Evl.ev_c (Evl.rv_I ⟨by decide, by decide, mix_a c1.1 (by omega) hu0 turnS⟩))) Evl.ev_c (Evl.rv_I (by decide))) fun H7 e7 => ?_
        have m1 := fmod_pos (a := (cell.fmod 2147483423 + 30347 * turn + 9341) ^ (5 : Int).toNat) (b := 2147483399) (by decide)
        generalize ((cell.fmod 2147483423 + 30347 * turn + 9341) ^ (5 : Int).toNat).fmod 2147483399 = mx at m1 ⊢
        refine Evl.q_asg (Evl.ev_op (ev_int (Evl.ev_op (Evl.ev_op (Evl.ev_op (Evl.ev_op (Evl.ev_var rfl) (Evl.ev_op (Evl.ev_op Evl.ev_c (Evl.ev_var rfl) (Evl.rv_I (.inl ⟨by decide, by decide⟩))) Evl.ev_c Evl.rv_I0) (Evl.rv_I (.inl ⟨by omega, by omega⟩))) (Evl.ev_op (Evl.ev_op Evl.ev_c (Evl.ev_var rfl) (Evl.rv_I (.inl ⟨by decide, by decide⟩))) (Evl.ev_var rfl) (Evl.rv_I (.inl ⟨by omega, by omega⟩))) Evl.rv_I0) Evl.ev_c Evl.rv_I0) Evl.ev_c (Evl.rv_I ⟨by decide, by decide, mix_b m1.1 (by omega) hu0 turnS⟩))) Evl.ev_c (Evl.rv_I (by decide))) fun H8 e8 => ?_
        refine Evl.s_ret (Evl.ev_op (ev_int (Evl.ev_op (Evl.ev_var rfl) Evl.ev_c (Evl.rv_I ⟨by decide, by decide⟩))) (Evl.ev_var rfl) (Evl.rv_I (by omega))) fun H9 e9 => ?_
        have e69 := ((e6.trans e7).trans e8).trans e9
        exact q _ _ (fmod_pos hm1).1 (fmod_pos hm1).2 (k5.trans (kept_ex e69)) ⟨cs, turn + 1, rest, e69 _ _ h5, e69 _ _ hc5, hct, hcl, by omega, by omega, hr0⟩
end

theorem scPick : FnScope ["kiosk", "some"] ["kiosk", "some"] (defScope sPick) := ⟨rfl, rfl, rfl, by decide +kernel, rfl, by decide +kernel, by decide +kernel⟩
theorem scTub : FnScope ["script", "cell"] ["script"] (defScope sTub) := ⟨rfl, rfl, rfl, by decide +kernel, rfl, by decide +kernel, by decide +kernel⟩
/-- an item at a drawn place -/
theorem at_drawn {xs : List V} {r : Int} (h0 : 0 ≤ r) (h1 : r < (xs.length : Int)) : ∃ (j : Nat) (v : V), xs[j]? = some v ∧ atI xs r = some v := by
  obtain ⟨j, rfl⟩ : ∃ j : Nat, r = (j : Int) := ⟨r.toNat, by omega⟩
  have hj : j < xs.length := by omega
  exact ⟨j, xs[j], List.getElem?_eq_getElem hj, atI_nat (List.getElem?_eq_getElem hj)⟩
def spPick (K : PySem.W.Frag) : Sp := fun vs H Q _ => ∃ (t c l : Addr) (xs : List V) (n : Nat), vs = [.ref t, .ref l] ∧ Tub H t c n ∧ n < 1000000 ∧ l ≠ t ∧ SqL K H l xs ∧ 1 ≤ xs.length ∧ xs.length ≤ 10000 ∧
  ∀ (j : Nat) (v : V) (H' : Hp), xs[j]? = some v → Kept t H H' → Tub H' t c (n + 1) → Q v H'
/-- the drawer as it is made: new -/
def spTub (K : PySem.W.Frag) : Sp := fun vs H Q _ => ∃ (a : Addr) (ns : List Int), vs = [.ref a] ∧ SqL K H a (ns.map V.int) ∧ ns.length ≤ 1000 ∧ ∀ t c H', H t = none → H c = none → Same H H' → Tub H' t c 0 → Q (.ref t) H'
theorem given_all {α : Type} (ns : List α) (d : α) (f : α → V) : Evl.given ns.length (fun _ => true) (fun i => f (ns.getD i d)) = ns.map f := by
  unfold Evl.given
  rw [List.filter_eq_self.mpr (fun _ _ => rfl)]
  refine List.ext_getElem (by simp) fun i h1 h2 => ?_
  have h3 : i < ns.length := by simpa using h2
  simp [List.getD_eq_getElem?_getD, h3]
theorem erase_map : ∀ (l : List Int) (j : Nat), (l.map V.int).eraseIdx j = (l.eraseIdx j).map V.int
  | [], j => by simp
  | _ :: _, 0 => rfl
  | a :: r, j + 1 => by
    have ih := erase_map r j
    simp [ih]
/-! ### going on behind an argument, a list made, a call -/
theorem ret_lst {t : TA} {D : Ends} {σ : L2.St} {H : Hp} (h : t σ H fun xs H1 => xs.length ≤ sizeLine ∧ ∀ p, H1 p = none → D.rt (.ref p) (upd H1 p (.lst xs))) : tRet (tLst t) D σ H := h
theorem go_l {te : TE} {σ : L2.St} {H : Hp} {Q : VK} {xs : List V} (h : Evl.EvL te σ H xs) (k : ∀ p H1, H p = none → Evl.Ex H H1 → H1 p = some (.lst xs) → Q (.ref p) H1) : te σ H Q := h H (Evl.Ex.refl H) Q k
theorem go_v {te : TE} {σ : L2.St} {H : Hp} {Q : VK} {v : V} (h : Evl.Ev te σ H v) (k : ∀ H1, Evl.Ex H H1 → Q v H1) : te σ H Q := h H (Evl.Ex.refl H) Q k
theorem cons_l {ta : TE} {tr : TA} {σ : L2.St} {H : Hp} {Q : List V → Hp → Prop} {xs : List V} (h : Evl.EvL ta σ H xs) (k : ∀ p H1, H p = none → Evl.Ex H H1 → H1 p = some (.lst xs) → tr σ H1 fun vs H2 => Q (.ref p :: vs) H2) : tCons ta tr σ H Q := h H (Evl.Ex.refl H) _ k
theorem cons_v {ta : TE} {tr : TA} {σ : L2.St} {H : Hp} {Q : List V → Hp → Prop} {v : V} (h : Evl.Ev ta σ H v) (k : ∀ H1, Evl.Ex H H1 → tr σ H1 fun vs H2 => Q (v :: vs) H2) : tCons ta tr σ H Q := h H (Evl.Ex.refl H) _ k
theorem et_yes {σ : L2.St} {H : Hp} : Evl.EvT tYes σ H true := fun H1 _ _ q => q H1 (Evl.Ex.refl H1)
theorem cut60 (xs : List V) : cutV xs none (some 60) = xs.take 60 := by
  unfold cutV
  rw [HT.sIx_none, show HT.sIx xs.length xs.length (some 60) = min 60 xs.length from HT.sIx_nat _ _ 60, List.drop_zero, Nat.sub_zero]
  by_cases h : 60 ≤ xs.length
  · rw [Nat.min_eq_left h]
  · rw [Nat.min_eq_right (by omega), List.take_length, List.take_of_length_le (by omega)]
section
variable {P : Program} {w : World} {K : PySem.W.Frag} {mg : Str → Option Value} {base : Heap}
theorem ok_pick {f fS : Addr} {fd fdS : FuncData} {k : Nat} (F : Fun K "_law_pick" "_law_pick" sPick f fd) (FS : Fun K "_law_ticket" "_law_ticket" sScoop fS fdS) (GS : FnOk P w K mg base CX0 k fS fdS ["kiosk", "many"] spScoop) (bS : Binds K fdS ["kiosk", "many"] [])
    (gS : mg "_law_ticket" = some (.ref fS)) (mlen : mg "len" = none) : FnOk P w K mg base CX0 (k + 1) f fd ["kiosk", "some"] (spPick K) := by
  refine F.ok scPick (fun vs H Q E h => ?_) (fun cdv A outer s H vs Q E hr h => ?_)
  · obtain ⟨t, c, l, xs, n, rfl, _⟩ := h
    rfl
  · obtain ⟨t, c, l, xs, n, rfl, hT, hn, hlt, hS, h1, h2, q⟩ := h
    refine ⟨_, pss_one (ps_ret (pe_ix ix_list (pv 1) (pe_call GS hr (by rfl) gS FS.kp bS .nil pass0 (pa_cons (pv 0) (pa_cons (pe_callB call_len_seq (by rfl) mlen PySem.boot_len (pa_cons (pv 1) pa_nil)) pa_nil))) (fun _ _ => rfl))), ?_⟩
    refine ⟨.ref l, rfl, .ref t, rfl, .ref l, rfl, l, xs, rfl, .inl hS, t, c, (xs.length : Int), n, rfl, hT, by omega, by omega, by omega, fun r H' r0 r1 hk hT' => ?_⟩
    obtain ⟨j, v, hj, ha⟩ := at_drawn r0 r1
    exact ⟨l, xs, r, v, rfl, rfl, hk.seq hlt hS, ha, q j v H' hj hk hT'⟩
theorem ok_tub {f : Addr} {fd : FuncData} {k : Nat} (F : Fun K "_law_kiosk" "_law_kiosk" sTub f fd) (mint : mg "int" = none) : FnOk P w K mg base CX0 (k + 1) f fd ["script"] (spTub K) := by
  refine F.ok scTub (fun vs H Q E h => ?_) (fun cdv A outer s H vs Q E hr h => ?_)
  · obtain ⟨a, ns, rfl, _⟩ := h
    rfl
  · obtain ⟨a, ns, rfl, hS, hl, q⟩ := h
    have nd := scTub.nd
    refine ⟨_, pss_one (ps_ret (pe_lst (pa_cons (pe_lc (own := [("cell", 1)]) (g := gName 1) (tt := tYes) rfl nd (pi_list (pe_slice sl_list (pv 0) po_none (po_some pe_int))) (blkOk_by (N := ["script", "cell"]) (sc := defScope sTub) (by decide +kernel)) (fun _ _ _ _ _ => pg_name (i := 1) nd rfl (Or.inl rfl)) (fun _ _ _ _ _ => pts_nil) (fun _ _ _ _ _ => pe_callTy call_int1 (by rfl) mint (by decide +kernel) (pa_cons (pv 1) pa_nil))) (pa_cons pe_int (pa_cons pe_int pa_nil))))), ?_⟩
    have e0 : cutV (ns.map V.int) none (some 60) = (ns.take 60).map V.int := by rw [cut60, List.map_take]
    refine ret_lst (cons_l (Evl.el_lcNL (K := K) (H := H) (j := 1) (xs := (ns.take 60).map V.int) (fun _ => true) (fun i => V.int ((ns.take 60).getD i 0)) ?_ ?_ ?_ ?_ ?_) (fun p H1 hp e1 h1 => ?_))
    · rw [← e0]
      exact Evl.el_sl (Evl.ev_var rfl) Evl.eo_none (Evl.eo_some Evl.ev_c) hS
    · rw [List.length_map, List.length_take]
      omega
    · exact fun x => rfl
    · exact fun i x H1 _ _ => et_yes
    · intro i x H1 _ hx _
      have hx2 : x = V.int ((ns.take 60).getD i 0) := by
        rw [List.getElem?_map] at hx
        cases hz : (ns.take 60)[i]? with
        | none => rw [hz] at hx; cases hx
        | some z =>
          rw [hz] at hx
          rw [List.getD_eq_getElem?_getD, hz]
          exact (Option.some.inj hx).symm
      subst hx2
      exact ev_int (Evl.ev_var rfl)
    · rw [List.length_map, given_all (ns.take 60) 0 V.int] at h1
      refine ⟨by show 3 ≤ sizeLine; decide, fun t ht => ?_⟩
      refine q t p _ (Evl.fresh_back e1 ht) hp (fun b o hb => ?_) ⟨ns.take 60, 0, 0, upd_same, ?_, ne_of_none h1 ht, by rw [List.length_take]; omega, Int.le_refl _, Int.le_refl _, Int.le_refl _⟩
      · rw [upd_ne (ne_of_none (e1 _ _ hb) ht)]
        exact e1 _ _ hb
      · rw [upd_ne (ne_of_none h1 ht)]
        exact h1
end

end P04
end S_Qb
section S_Wf
namespace Hk
open PySem PySem.Spec PyProof.Rows L2
theorem args_minD (a v : Value) : argsOk "min" ⟨[a], [(Str.ofString "default", v)]⟩ := by unfold argsOk; kernel_rfl
section
variable {prog : Program} {w : World} {A : Around} {E : Value → Shared → Prop} {s : Shared}
/-- min of an empty list, with what is told for none -/
theorem min_none {l : Addr} {d : Value} {Q : Value → Shared → Prop} (hh : A.handled = none) (hl : s.heap.IsList l #[]) (k : ∀ h' tk, (∀ b o, s.heap.get? b = some o → h'.get? b = some o) → Q d { s with heap := h', toks := tk }) :
    wpAny (model prog w) A (call (.builtin "min") [.ref l] [(Str.ofString "default", d)]) Q E s := by
  refine PyProof.Rows.kmk_tree PySem.F.kind_min PySem.F.plain_min PySem.F.entry_min (args_minD _ _) ?_
  show wpAny _ A.in1 (Builtin.Builtins.bindParams "min" ["key", "default"] 0 ⟨[], [(Str.ofString "default", d)]⟩ >>= _) _ _ s
  refine wpAny_bind (wpAny_of_eq (show Builtin.Builtins.bindParams "min" ["key", "default"] 0 ⟨[], [(Str.ofString "default", d)]⟩ = pure [none, some d] from rfl) (wpAny_bind (wpAny_pure (wpAny_bind (wpAny_pyIter_list hl (wpAny_bind (wpAny_newList ?_ (Nat.zero_le _))))))))
  rw [show (toString "min" ++ toString ".loop" : String) = "min.loop" by decide]
  have ll : l < s.heap.objs.size := by
    obtain ⟨o, ho, _⟩ := hl
    exact Heap.lt_size ho
  refine wpAny_pure ⟨plainId_quiet PySem.F.plain_min_loop _, ?_⟩
  have up : ∀ b o, s.heap.get? b = some o → ((s.heap.push { cls := .type "list_iterator", data := .fields #[.ref l, .int 0 0] }).push (seqObj "list" #[] 0)).get? b = some o := fun b o e => Heap.get?_push_of_some _ (Heap.get?_push_of_some _ e)
  have gI : ((s.heap.push { cls := .type "list_iterator", data := .fields #[.ref l, .int 0 0] }).push (seqObj "list" #[] 0)).get? s.heap.objs.size = some { cls := .type "list_iterator", data := .fields #[.ref l, .int 0 0] } := Heap.get?_push_of_some _ (Heap.get?_push_size _ rfl)
  have gS : ((s.heap.push { cls := .type "list_iterator", data := .fields #[.ref l, .int 0 0] }).push (seqObj "list" #[] 0)).get? (s.heap.push { cls := .type "list_iterator", data := .fields #[.ref l, .int 0 0] }).objs.size = some (seqObj "list" #[] 0) := Heap.get?_push_size _ rfl
  refine codeAny_builtin PySem.F.entry_min_loop ?_
  rw [Around.under_plainId PySem.F.plain_min_loop _]
  refine wpAny_bind (wpAny_seqItems gS rfl (wpAny_bind (wpAny_tryCatch (wpAny_pyNext_list_end (i := 0) (items := #[]) hh ⟨_, gI, rfl, rfl⟩ (let ⟨o, ho, r⟩ := hl; ⟨o, up _ _ ho, r⟩) rfl fun h' ext => ?_))))
  show wpAny _ _ (do rule (toString "min" ++ toString ".default"); (ret d : Sem Fin)) _ _ _
  exact wpAny_bind (wpAny_rule (wpAny_pure (k _ _ fun b o e => ext b o (Nat.ne_of_lt (Heap.lt_size e)) (up b o e))))
end
def rMinN (K : PySem.W.Frag) : List V → List V → Hp → VK → Prop := fun xs zs H Q => ∃ (l : Addr) (z : V), xs = [.ref l] ∧ zs = [z] ∧ SqL K H l [] ∧ Q z H
theorem call_minN {X : Cx} (hc : X.calm = true) : CallRK X (.builtin "min") ["default"] (rMinN X.K) := by
  intro pins s σ H xs zs us ws Q I r r2 h
  obtain ⟨l, z, rfl, rfl, hS, q⟩ := h
  cases r with
  | cons rx rr =>
    cases rr
    cases rx
    cases r2 with
    | cons rz rr =>
      cases rr
      obtain ⟨its, rv, pl, hz⟩ := I.list hS
      have e : its = [] := by cases rv; rfl
      subst e
      exact min_none (I.ok.hd hc) pl.isList fun h' tk kp => ⟨z, H, I.kept (t' := tk) kp, rz, q⟩
end Hk
end S_Wf
section S_Wg
namespace Hk
open PySem PySem.Spec PyProof.Rows L2 Tl
section
open Evl
variable {K : PySem.W.Frag} {σ : L2.St} {H H' B : Hp} {ta tb te : TE} {x y z v : V}
theorem s_retN {te : TE} {D : Ends} {R : V → Hp → Prop} (h : EvN te σ H R) (k : ∀ v H1, Ex H H1 → (∀ H3, Ex H H3 → Since H H1 H3 → R v H3) → D.rt v H1) : tRet te D σ H := h H (Ex.refl H) D.rt k
theorem s_retB {te : TE} {D : Ends} {R : V → Hp → Prop} {B : Hp} (hB : Ex B H) (h : EvN te σ B R) (k : ∀ v H1, Ex H H1 → (∀ H3, Ex B H3 → Since H H1 H3 → R v H3) → D.rt v H1) : tRet te D σ H := h H hB D.rt k
theorem q_asgN {te : TE} {tz : TS} {i : Nat} {D : Ends} {R : V → Hp → Prop} {B : Hp} (hB : Ex B H) (h : EvN te σ B R) (k : ∀ v H1, Ex H H1 → (∀ H3, Ex B H3 → Since H H1 H3 → R v H3) → tz D (σ.set i (some v)) H1) : tSeq (tAsg te (gName i)) tz D σ H := h H hB _ k
def SpN (sp : Sp) (vs : List V) (H : Hp) (R : V → Hp → Prop) : Prop := ∀ H1, Ex H H1 → ∀ Q : VK, (∀ v H2, Ex H1 H2 → (∀ H3, Ex H H3 → Since H1 H2 H3 → R v H3) → Q v H2) → ∀ E : XK, sp vs H1 Q E
theorem en_call {sp : Sp} {dvs vs : List V} {E : XK} {ta : TA} {R : V → Hp → Prop} (h : EvA ta σ H vs) (hs : SpN sp (vs ++ dvs) H R) : EvN (tCall sp dvs E ta) σ H R := fun H1 e Q q =>
  h H1 e _ fun H2 e2 => hs H2 (e.trans e2) Q (fun v H3 e3 hv => q v H3 (e2.trans e3) fun H4 h4 s4 => hv H4 h4 fun a o ha hc => s4 a o (fresh_back e2 ha) hc) E
theorem en_tup {ta : TE} {a : Addr} {xs : List V} (h : Ev ta σ H (.ref a)) (hs : SqL K H a xs) : EvN (tCB (fun xs H Q => ∃ p ys, xs = [V.ref p] ∧ ((SqL K H p ys ∧ ∀ l, H l = none → Q (V.ref l) (upd H l (HO.tup ys))) ∨ (SqT K H p ys ∧ Q (V.ref p) H))) (tCons ta tNil)) σ H
    (fun u H' => ∃ t, u = .ref t ∧ H' t = some (.tup xs)) := fun H1 e Q q =>
  h H1 e _ fun H2 e2 => ⟨a, xs, rfl, .inl ⟨ex_l (e.trans e2) hs, fun t ht => q _ _ (e2.trans (Ex.new ht)) fun H3 _ s3 => ⟨t, rfl, s3 _ _ (fresh_back e2 ht) upd_same⟩⟩⟩
theorem ei_rng2c {σ : L2.St} {H : Hp} {ta : TA} {i j : Int} {n : Nat} (hn : (j - i).toNat = n) (h : Evl.EvA ta σ H [.int i, .int j]) (h0 : -100000 ≤ i ∧ i ≤ 100000) (h1 : -100000 ≤ j ∧ j ≤ 100000) : EvI (iRng2 ta) σ H n (YFn fun k => .int (i + k)) := by
  subst hn
  exact ei_rng2 h h0 h1
theorem ei_rng1c {σ : L2.St} {H : Hp} {ta : TA} {j : Int} {n : Nat} (hn : j.toNat = n) (h : Evl.EvA ta σ H [.int j]) (h0 : 0 ≤ j) (h1 : j ≤ 100000) : EvI (iRng1 ta) σ H n (YFn fun k => .int (0 + k)) := by
  subst hn
  exact ei_rng1 h h0 h1
end
end Hk
end S_Wg
section S_Qc
namespace P04
open PySem PySem.Spec PyProof.Rows L2 Tl Hk
/-- a value, and whether it is a list of integers within bounds -/
inductive RowR (K : PySem.W.Frag) (H : Hp) (lo hi : V) : V → Bool → Prop where
  | no {x : V} {n : String} (h : Ty7 K H x n) (h1 : n ≠ "list") (h2 : n ≠ "tuple") : RowR K H lo hi x false
  | lst {a : Addr} {xs : List V} (h : SqL K H a xs) (hl : xs.length ≤ 4000) (hi_ : ∀ v ∈ xs, ∃ n, Ty7 K H v n) : RowR K H lo hi (.ref a) (xs.all fun v => wi v lo hi)
  | tup {a : Addr} {xs : List V} (h : SqT K H a xs) (hl : xs.length ≤ 4000) (hi_ : ∀ v ∈ xs, ∃ n, Ty7 K H v n) : RowR K H lo hi (.ref a) (xs.all fun v => wi v lo hi)
theorem RowR.ex {K : PySem.W.Frag} {H H' : Hp} {lo hi x : V} {r : Bool} (h : RowR K H lo hi x r) (e : Evl.Ex H H') : RowR K H' lo hi x r := by
  cases h with
  | no h h1 h2 => exact .no (h.ex e) h1 h2
  | lst h hl hi => exact .lst (Evl.ex_l e h) hl fun v hv => (hi v hv).imp fun n hn => hn.ex e
  | tup h hl hi => exact .tup (Evl.ex_t e h) hl fun v hv => (hi v hv).imp fun n hn => hn.ex e
def spRow (K : PySem.W.Frag) : Sp := fun vs H Q _ => ∃ (x lo hi : V) (r : Bool), vs = [x, lo, hi] ∧ RowR K H lo hi x r ∧ Bnd lo ∧ Bnd hi ∧ ∀ H1, Evl.Ex H H1 → Q (.bl r) H1
theorem scRow : FnScope ["value", "least", "most", "item"] ["value", "least", "most"] (defScope sRow) := ⟨rfl, rfl, rfl, by decide +kernel, rfl, by decide +kernel, by decide +kernel⟩
section
variable {P : Program} {w : World} {K : PySem.W.Frag} {mg : Str → Option Value} {base : Heap}
theorem ok_row {f fW fL : Addr} {fd fdW fdL : FuncData} {k : Nat} (F : Fun K "is_row" "is_row" sRow f fd)
    (FW : Fun K "is_within" "is_within" sWithin fW fdW) (GW : FnOk P w K mg base CX0 k fW fdW ["value", "least", "most"] (spWithin K)) (bW : Binds K fdW ["value", "least", "most"] []) (gW : mg "is_within" = some (.ref fW))
    (FL : Fun K "is_list" "is_list" sList fL fdL) (GL : FnOk P w K mg base CX0 k fL fdL ["value"] (spList K)) (bL : Binds K fdL ["value"] []) (gL : mg "is_list" = some (.ref fL)) (mall : mg "all" = none) :
    FnOk P w K mg base CX0 (k + 1) f fd ["value", "least", "most"] (spRow K) := by
  refine F.ok scRow (fun vs H Q E h => ?_) (fun cdv A outer s H vs Q E hr h => ?_)
  · obtain ⟨x, lo, hi, r, rfl, _⟩ := h
    rfl
  · obtain ⟨x, lo, hi, r, rfl, h, hlo, hhi, q⟩ := h
    have nd := scRow.nd
    have isl : ∀ {n : String}, Ty7 K H x n → Evl.Ev (tCall (spList K) [] E0 (tCons (tVar 0) tNil)) (start ["value", "least", "most", "item"] [x, lo, hi]) H (.bl (decide (n = "list") || decide (n = "tuple"))) :=
      fun h7 => Evl.ev_call (Evl.ea_cons (Evl.ev_var rfl) Evl.ea_nil) (spv_list h7)
    have items : ∀ {H1 : Hp} {xs : List V} {i : Nat} {v : V}, Evl.Ex H H1 → (∀ v ∈ xs, ∃ n, Ty7 K H v n) → xs[i]? = some v → Evl.Ev (tCall (spWithin K) [] E0 (tCons (tVar 3) (tCons (tVar 1) (tCons (tVar 2) tNil)))) [none, some lo, some hi, some v] H1 (.bl (wi (xs.getD i .non) lo hi)) :=
      fun {H1 xs i v} e hi' hv => by
        obtain ⟨n, hn⟩ := hi' v (List.mem_of_getElem? hv)
        have ev : xs.getD i .non = v := by rw [List.getD_eq_getElem?_getD, hv]; rfl
        rw [ev]
        exact Evl.ev_call (Evl.ea_cons (Evl.ev_var rfl) (Evl.ea_cons (Evl.ev_var rfl) (Evl.ea_cons (Evl.ev_var rfl) Evl.ea_nil))) (spv_within (hn.ex e) hlo hhi)
    have ebs : ∀ xs : List V, Evl.given xs.length (fun _ => true) (fun i => V.bl (wi (xs.getD i .non) lo hi)) = (xs.map fun v => wi v lo hi).map V.bl := fun xs => by
      rw [given_all xs .non fun v => V.bl (wi v lo hi), List.map_map]
      rfl
    have eall : ∀ xs : List V, (true && (xs.map fun v => wi v lo hi).all id) = xs.all fun v => wi v lo hi := fun xs => by
      rw [Bool.true_and, List.all_map]
      rfl
    cases h with
    | @no x n h7 h1 h2 =>
      refine ⟨_, pss_one (ps_ret (pe_and (pe_call GL hr (by rfl) gL FL.kp bL .nil pass0 (pa_cons (pv 0) pa_nil)) (pe_one (pe_callB (cr_all rfl) (by rfl) mall (by decide +kernel) (pa_cons
          (pe_lc (own := [("item", 3)]) (g := gName 3) (tt := tYes) rfl nd (pi_list (pv 0)) (blkOk_by (N := ["value", "least", "most", "item"]) (sc := defScope sRow) (by decide +kernel)) (fun _ _ _ _ _ => pg_name (i := 3) nd rfl (Or.inl rfl)) (fun _ _ _ _ _ => pts_nil)
            (fun _ _ _ _ _ => pe_call GW (hr) (by rfl) gW FW.kp bW .nil pass0 (pa_cons (pv 3) (pa_cons (pv 1) (pa_cons (pv 2) pa_nil))))) pa_nil))))), ?_⟩
      have eb : (decide (n = "list") || decide (n = "tuple")) = false := by simp [h1, h2]
      exact Evl.s_ret (Evl.ev_is (Evl.ev_andV (b := false) (isl h7) fun z => by rw [eb] at z; cases z) (by rw [eb] <;> rfl)) q
    | @lst a xs hS hl hi0 =>
      refine ⟨_, pss_one (ps_ret (pe_and (pe_call GL hr (by rfl) gL FL.kp bL .nil pass0 (pa_cons (pv 0) pa_nil)) (pe_one (pe_callB (cr_all rfl) (by rfl) mall (by decide +kernel) (pa_cons
          (pe_lc (own := [("item", 3)]) (g := gName 3) (tt := tYes) rfl nd (pi_list (pv 0)) (blkOk_by (N := ["value", "least", "most", "item"]) (sc := defScope sRow) (by decide +kernel)) (fun _ _ _ _ _ => pg_name (i := 3) nd rfl (Or.inl rfl)) (fun _ _ _ _ _ => pts_nil)
            (fun _ _ _ _ _ => pe_call GW (hr) (by rfl) gW FW.kp bW .nil pass0 (pa_cons (pv 3) (pa_cons (pv 1) (pa_cons (pv 2) pa_nil))))) pa_nil))))), ?_⟩
      refine Evl.s_ret (Evl.ev_is (Evl.ev_andV (isl (.lst hS)) fun _ => ev_allN (bs := xs.map fun v => wi v lo hi) ?_) (congrArg V.bl (eall xs))) q
      rw [← ebs]
      exact Evl.el_lcL (fun _ => true) _ (Evl.ev_var rfl) hS (by omega) (fun _ => rfl) (fun _ _ _ _ _ => et_yes) fun i v H1 e1 hv _ => items e1 hi0 hv
    | @tup a xs hS hl hi0 =>
      refine ⟨_, pss_one (ps_ret (pe_and (pe_call GL hr (by rfl) gL FL.kp bL .nil pass0 (pa_cons (pv 0) pa_nil)) (pe_one (pe_callB (cr_all rfl) (by rfl) mall (by decide +kernel) (pa_cons
          (pe_lc (own := [("item", 3)]) (g := gName 3) (tt := tYes) rfl nd (pi_tup (pv 0)) (blkOk_by (N := ["value", "least", "most", "item"]) (sc := defScope sRow) (by decide +kernel)) (fun _ _ _ _ _ => pg_name (i := 3) nd rfl (Or.inl rfl)) (fun _ _ _ _ _ => pts_nil)
            (fun _ _ _ _ _ => pe_call GW (hr) (by rfl) gW FW.kp bW .nil pass0 (pa_cons (pv 3) (pa_cons (pv 1) (pa_cons (pv 2) pa_nil))))) pa_nil))))), ?_⟩
      refine Evl.s_ret (Evl.ev_is (Evl.ev_andV (isl (.tup hS)) fun _ => ev_allN (bs := xs.map fun v => wi v lo hi) ?_) (congrArg V.bl (eall xs))) q
      rw [← ebs]
      exact el_lcT (fun _ => true) _ (Evl.ev_var rfl) hS (by omega) (fun _ => rfl) (fun _ _ _ _ _ => et_yes) fun i v H1 e1 hv _ => items e1 hi0 hv
end
end P04
end S_Qc
section S_Qd
namespace P04
open PySem PySem.Spec PyProof.Rows L2 Tl Hk
theorem scLot : FnScope ["value"] ["value"] (defScope sLot) := ⟨rfl, rfl, rfl, by decide +kernel, rfl, by decide +kernel, by decide +kernel⟩
/-- whether these items are a lot -/
def lotV (xs : List V) : Bool := xs.all (fun v => wi v (.int 1) .non) && decide xs.Nodup
/-- a value, and whether it is a lot -/
inductive LotR (K : PySem.W.Frag) (H : Hp) : V → Bool → Prop where
  | no {x : V} {n : String} (h : Ty7 K H x n) (h1 : n ≠ "list") (h2 : n ≠ "tuple") : LotR K H x false
  | lst {a : Addr} {xs : List V} (h : SqL K H a xs) (hl : xs.length ≤ 4000) (hi : ∀ v ∈ xs, ∃ n, Ty7 K H v n) : LotR K H (.ref a) (lotV xs)
  | tup {a : Addr} {xs : List V} (h : SqT K H a xs) (hl : xs.length ≤ 4000) (hi : ∀ v ∈ xs, ∃ n, Ty7 K H v n) : LotR K H (.ref a) (lotV xs)
theorem LotR.ex {K : PySem.W.Frag} {H H' : Hp} {x : V} {r : Bool} (h : LotR K H x r) (e : Evl.Ex H H') : LotR K H' x r := by
  cases h with
  | no h h1 h2 => exact .no (h.ex e) h1 h2
  | lst h hl hi => exact .lst (Evl.ex_l e h) hl fun v hv => (hi v hv).imp fun n hn => hn.ex e
  | tup h hl hi => exact .tup (Evl.ex_t e h) hl fun v hv => (hi v hv).imp fun n hn => hn.ex e
def spLot (K : PySem.W.Frag) : Sp := fun vs H Q _ => ∃ (x : V) (r : Bool), vs = [x] ∧ LotR K H x r ∧ ∀ H1, Evl.Ex H H1 → Q (.bl r) H1
theorem spv_lot {K : PySem.W.Frag} {H : Hp} {x : V} {r : Bool} (h : LotR K H x r) : Evl.SpV (spLot K) [x] H (.bl r) := fun H1 e Q q E => ⟨x, r, rfl, h.ex e, q⟩
theorem all_ints : ∀ {xs : List V}, xs.all (fun v => wi v (.int 1) .non) = true → ∃ ns : List Int, xs = ns.map V.int
  | [], _ => ⟨[], rfl⟩
  | x :: r, h => by
    rw [List.all_cons, Bool.and_eq_true_iff] at h
    obtain ⟨ns, e⟩ := all_ints h.2
    cases x with
    | int i => exact ⟨i :: ns, by rw [e]; rfl⟩
    | _ => exact absurd h.1 (by intro z; cases z)
theorem nodup_int (ns : List Int) : (ns.map V.int).Nodup ↔ ns.Nodup := by
  induction ns with
  | nil => exact ⟨fun _ => List.nodup_nil, fun _ => List.nodup_nil⟩
  | cons a r ih =>
    rw [List.map_cons, List.nodup_cons, List.nodup_cons, ih]
    refine and_congr (not_congr ?_) Iff.rfl
    rw [List.mem_map]
    exact ⟨fun ⟨b, hb, e⟩ => V.int.inj e ▸ hb, fun h => ⟨a, h, rfl⟩⟩
theorem spv_row {K : PySem.W.Frag} {H : Hp} {x lo hi : V} {r : Bool} (h : RowR K H lo hi x r) (h1 : Bnd lo) (h2 : Bnd hi) : Evl.SpV (spRow K) [x, lo, hi] H (.bl r) := fun H1 e Q q E => ⟨x, lo, hi, r, rfl, h.ex e, h1, h2, q⟩
/-- whether these items are unlike integers from lo on -/
def unV (lo : V) (xs : List V) : Bool := xs.all (fun v => wi v lo .non) && decide xs.Nodup
inductive UnR (K : PySem.W.Frag) (H : Hp) (lo : V) : V → Bool → Prop where
  | no {x : V} {n : String} (h : Ty7 K H x n) (h1 : n ≠ "list") (h2 : n ≠ "tuple") : UnR K H lo x false
  | lst {a : Addr} {xs : List V} (h : SqL K H a xs) (hl : xs.length ≤ 4000) (hi : ∀ v ∈ xs, ∃ n, Ty7 K H v n) : UnR K H lo (.ref a) (unV lo xs)
  | tup {a : Addr} {xs : List V} (h : SqT K H a xs) (hl : xs.length ≤ 4000) (hi : ∀ v ∈ xs, ∃ n, Ty7 K H v n) : UnR K H lo (.ref a) (unV lo xs)
theorem UnR.ex {K : PySem.W.Frag} {H H' : Hp} {lo x : V} {r : Bool} (h : UnR K H lo x r) (e : Evl.Ex H H') : UnR K H' lo x r := by
  cases h with
  | no h h1 h2 => exact .no (h.ex e) h1 h2
  | lst h hl hi => exact .lst (Evl.ex_l e h) hl fun v hv => (hi v hv).imp fun n hn => hn.ex e
  | tup h hl hi => exact .tup (Evl.ex_t e h) hl fun v hv => (hi v hv).imp fun n hn => hn.ex e
def spUn (K : PySem.W.Frag) : Sp := fun vs H Q _ => ∃ (x lo : V) (r : Bool), vs = [x, lo] ∧ UnR K H lo x r ∧ Bnd lo ∧ ∀ H1, Evl.Ex H H1 → Q (.bl r) H1
theorem spv_un {K : PySem.W.Frag} {H : Hp} {x lo : V} {r : Bool} (h : UnR K H lo x r) (h1 : Bnd lo) : Evl.SpV (spUn K) [x, lo] H (.bl r) := fun H1 e Q q E => ⟨x, lo, r, rfl, h.ex e, h1, q⟩
theorem ints_of {lo : V} : ∀ {xs : List V}, xs.all (fun v => wi v lo .non) = true → ∃ ns : List Int, xs = ns.map V.int
  | [], _ => ⟨[], rfl⟩
  | x :: r, h => by
    rw [List.all_cons, Bool.and_eq_true_iff] at h
    obtain ⟨ns, e⟩ := ints_of h.2
    cases x with
    | int i => exact ⟨i :: ns, by rw [e]; rfl⟩
    | _ => exact absurd h.1 (by intro z; cases z)
theorem un_end {xs : List V} {ns : List Int} {c : Nat} (e : xs = ns.map V.int) (hc : c = ns.length ↔ ns.Nodup) : decide (V.int (c : Int) = V.int (xs.length : Int)) = decide xs.Nodup := by
  subst e
  refine decide_eq_decide.mpr ?_
  rw [nodup_int, ← hc, List.length_map]
  exact ⟨fun z => by have := V.int.inj z; omega, fun z => by rw [z]⟩
theorem scUn : FnScope ["value", "least"] ["value", "least"] (defScope sUn) := ⟨rfl, rfl, rfl, by decide +kernel, rfl, by decide +kernel, by decide +kernel⟩
section
variable {P : Program} {w : World} {K : PySem.W.Frag} {mg : Str → Option Value} {base : Heap}
theorem ok_unlike {f fR : Addr} {fd fdR : FuncData} {k : Nat} (F : Fun K "are_unlike" "are_unlike" sUn f fd)
    (FR : Fun K "is_row" "is_row" sRow fR fdR) (GR : FnOk P w K mg base CX0 k fR fdR ["value", "least", "most"] (spRow K)) (bR : Binds K fdR ["value", "least", "most"] []) (gR : mg "is_row" = some (.ref fR))
    (mlen : mg "len" = none) (mset : mg "set" = none) : FnOk P w K mg base CX0 (k + 1) f fd ["value", "least"] (spUn K) := by
  refine F.ok scUn (fun vs H Q E h => ?_) (fun cdv A outer s H vs Q E hr h => ?_)
  · obtain ⟨x, lo, r, rfl, _⟩ := h
    rfl
  · obtain ⟨x, lo, r, rfl, h, hlo, q⟩ := h
    cases h with
    | @no x n h7 h1 h2 =>
      refine ⟨_, pss_one (ps_ret (pe_and (pe_call GR hr (by rfl) gR FR.kp bR .nil pass0 (pa_cons (pv 0) (pa_cons (pv 1) (pa_cons pe_non pa_nil)))) (pe_one (pe_cmpR op_eq (pe_lenSetN (by rfl) mlen (by rfl) mset (pv 0)) (pe_callB call_len_seq (by rfl) mlen PySem.boot_len (pa_cons (pv 0) pa_nil)) (nomark _))))), ?_⟩
      exact Evl.s_ret (Evl.ev_andV (b := false) (Evl.ev_call (Evl.ea_cons (Evl.ev_var rfl) (Evl.ea_cons (Evl.ev_var rfl) (Evl.ea_cons Evl.ev_c Evl.ea_nil))) (spv_row (.no h7 h1 h2) hlo trivial)) fun z => nomatch z) q
    | @lst a xs hS hl hi =>
      refine ⟨_, pss_one (ps_ret (pe_and (pe_call GR hr (by rfl) gR FR.kp bR .nil pass0 (pa_cons (pv 0) (pa_cons (pv 1) (pa_cons pe_non pa_nil)))) (pe_one (pe_cmpR op_eq (pe_lenSetN (by rfl) mlen (by rfl) mset (pv 0)) (pe_callB call_len_seq (by rfl) mlen PySem.boot_len (pa_cons (pv 0) pa_nil)) (nomark _))))), ?_⟩
      refine Evl.s_ret (v := .bl (unV lo xs)) (Evl.ev_andV (Evl.ev_call (Evl.ea_cons (Evl.ev_var rfl) (Evl.ea_cons (Evl.ev_var rfl) (Evl.ea_cons Evl.ev_c Evl.ea_nil))) (spv_row (.lst hS hl hi) hlo trivial)) fun ha H1 e Q' q' => ?_) q
      obtain ⟨ns, en⟩ := ints_of ha
      refine ⟨.ref a, rfl, a, ns, rfl, en ▸ Evl.ex_l e hS, by rw [en, List.length_map] at hl; exact hl, fun c hc => ⟨.ref a, rfl, a, xs, rfl, .inl (Evl.ex_l e hS), rfl, ?_⟩⟩
      rw [un_end en hc]
      exact q' H1 (Evl.Ex.refl _)
    | @tup a xs hS hl hi =>
      refine ⟨_, pss_one (ps_ret (pe_and (pe_call GR hr (by rfl) gR FR.kp bR .nil pass0 (pa_cons (pv 0) (pa_cons (pv 1) (pa_cons pe_non pa_nil)))) (pe_one (pe_cmpR op_eq (pe_lenSetU (by rfl) mlen (by rfl) mset (pv 0)) (pe_callB call_len_seq (by rfl) mlen PySem.boot_len (pa_cons (pv 0) pa_nil)) (nomark _))))), ?_⟩
      refine Evl.s_ret (v := .bl (unV lo xs)) (Evl.ev_andV (Evl.ev_call (Evl.ea_cons (Evl.ev_var rfl) (Evl.ea_cons (Evl.ev_var rfl) (Evl.ea_cons Evl.ev_c Evl.ea_nil))) (spv_row (.tup hS hl hi) hlo trivial)) fun ha H1 e Q' q' => ?_) q
      obtain ⟨ns, en⟩ := ints_of ha
      refine ⟨.ref a, rfl, a, ns, rfl, en ▸ Evl.ex_t e hS, by rw [en, List.length_map] at hl; exact hl, fun c hc => ⟨.ref a, rfl, a, xs, rfl, .inr (Evl.ex_t e hS), rfl, ?_⟩⟩
      rw [un_end en hc]
      exact q' H1 (Evl.Ex.refl _)
theorem LotR.un {H : Hp} {x : V} {r : Bool} (h : LotR K H x r) : UnR K H (.int 1) x r := by
  cases h with
  | no h h1 h2 => exact .no h h1 h2
  | lst h hl hi => exact .lst h hl hi
  | tup h hl hi => exact .tup h hl hi
theorem ok_lot {f fU : Addr} {fd fdU : FuncData} {k : Nat} (F : Fun K "is_lot" "is_lot" sLot f fd) (FU : Fun K "are_unlike" "are_unlike" sUn fU fdU) (GU : FnOk P w K mg base CX0 k fU fdU ["value", "least"] (spUn K)) (bU : Binds K fdU ["value", "least"] []) (gU : mg "are_unlike" = some (.ref fU)) :
    FnOk P w K mg base CX0 (k + 1) f fd ["value"] (spLot K) := by
  refine F.ok scLot (fun vs H Q E h => ?_) (fun cdv A outer s H vs Q E hr h => ?_)
  · obtain ⟨x, r, rfl, _⟩ := h
    rfl
  · obtain ⟨x, r, rfl, h, q⟩ := h
    refine ⟨_, pss_one (ps_ret (pe_call GU hr (by rfl) gU FU.kp bU .nil pass0 (pa_cons (pv 0) (pa_cons pe_int pa_nil)))), ?_⟩
    exact Evl.s_ret (Evl.ev_call (Evl.ea_cons (Evl.ev_var rfl) (Evl.ea_cons Evl.ev_c Evl.ea_nil)) (spv_un h.un trivial)) q
end
end P04
end S_Qd
section S_Yz
namespace Tl
open PySem PySem.Spec PyProof.Rows L2
/-- the pairs of a zip: keys by ints -/
abbrev zipK (ks : List Int) (ys : List V) : List (L2.Key × V) := (ks.map Sum.inl).zip ys
def tDictZip (K : PySem.W.Frag) (ta : TA) : TE := fun σ H Q => ta σ H fun vs H1 => ∃ (a b : Addr) (ks : List Int) (ys : List V), vs = [.ref a, .ref b] ∧ SqT K H1 a (ks.map V.int) ∧ SqT K H1 b ys ∧ ys.length = ks.length ∧
  ∀ p, H1 p = none → Q (.ref p) (upd H1 p (.dK (mergeK [] (zipK ks ys))))
theorem kv_zip {P : Program} {w : World} : ∀ {ks : List Int} {ys : List V} {us vs : List Value}, Vals (ks.map V.int) us → Vals ys vs → KV (zipK ks ys) ((ks.map (Sum.inl : Int → L2.Key)).zip vs) ∧ ∀ (i : Nat) (k v : Value), us[i]? = some k → vs[i]? = some v → ∃ q, ((ks.map (Sum.inl : Int → L2.Key)).zip vs)[i]? = some (q, v) ∧ (mixKind P w).is q k = true
  | [], ys, us, vs, r1, r2 => by
    cases r1
    exact ⟨.nil, fun i k v h => by simp at h⟩
  | k :: ks, [], us, vs, r1, r2 => by
    cases r2
    exact ⟨.nil, fun i k v _ h => by simp at h⟩
  | k :: ks, y :: ys, _, _, r1, r2 => by
    rw [List.map_cons] at r1
    cases r1 with
    | @cons _ u _ us hu t1 =>
      cases r2 with
      | @cons _ v _ vs hv t2 =>
        obtain ⟨a1, a2⟩ := kv_zip (P := P) (w := w) t1 t2
        refine ⟨.cons ⟨rfl, hv⟩ a1, fun i k' v' h1 h2 => ?_⟩
        cases i with
        | zero =>
          cases h1
          cases h2
          exact ⟨_, rfl, kV_is (P := P) (w := w) (k := Sum.inl k) hu⟩
        | succ i => exact a2 i k' v' (by simpa using h1) (by simpa using h2)
theorem pe_dictZip {X : Cx} {e e2 : Expr} {ta : TA} {p p2 q pos : Pos} (hg : Gl X "dict") (hm : X.mg "dict" = none) (hg2 : Gl X "zip") (hm2 : X.mg "zip" = none) (ha : PA X [e, e2] ta) (hc : X.calm = true := by rfl)
    (ns : starEach [e, e2] X.env = (false, eval e X.env) :: starEach [e2] X.env := by rfl) (np : (backTo q (starEach [e2] X.env)).any (·.1) = false := by rfl)
    (na : starEach [Expr.Call (.Name "zip" p2) [e, e2] [] q] X.env = (false, eval (Expr.Call (.Name "zip" p2) [e, e2] [] q) X.env) :: starEach [] X.env := by rfl) :
    PE X (.Call (.Name "dict" p) [.Call (.Name "zip" p2) [e, e2] [] q] [] pos) (tDictZip X.K ta) := by
  constructor
  intro pins s σ H Q I h
  refine Call_ (ld_blt I hg hm (show bootBuiltins "dict" = some (.type "dict") by decide +kernel) (PyProof.Rows.callWith_type1 (args_cons (Call_ (ld_blt I hg2 hm2 boot_zip (PyProof.Rows.callWith_type1 (thn (ha.run q pins s σ H _ I h) fun us s1 hv => ?_) ns np))) na) na rfl))
  obtain ⟨vs, H1, I1, r1, a, b, ks, ys, rfl, hA, hB, hl, q1⟩ := hv
  obtain ⟨u1, u2, rfl, ra, rb⟩ := vals2 r1
  cases ra
  cases rb
  obtain ⟨ua, va, pa, za⟩ := I1.tuple hA
  obtain ⟨ub, vb, pb, zb⟩ := I1.tuple hB
  have la : a < s1.heap.objs.size := by obtain ⟨o, ho, _⟩ := pa; exact Heap.lt_size ho
  have lb : b < s1.heap.objs.size := by obtain ⟨o, ho, _⟩ := pb; exact Heap.lt_size ho
  have D : ZipApart (s1.heap.objs.size + 4) (s1.heap.objs.size + 2) (s1.heap.objs.size + 3) s1.heap.objs.size (s1.heap.objs.size + 1) a b := PySem.W.ktu_apart _ _ _ la lb
  have n1 : ua.length = ks.length := by rw [← va.length, List.length_map]
  have n2 : ub.length = ks.length := by rw [← vb.length, hl]
  obtain ⟨rel, fits⟩ := kv_zip (P := X.prog) (w := X.w) va vb
  refine RZ.call_zipT pa pb fun g hz hTI hTO hi1 hi2 hsz hk => args_nil ?_
  have ok : ZOk (s1.heap.objs.size + 4) (s1.heap.objs.size + 2) (s1.heap.objs.size + 3) s1.heap.objs.size (s1.heap.objs.size + 1) a b ua.toArray ub.toArray g :=
    ⟨hz, hTI, ⟨_, _, hTO⟩, ⟨hi1, Heap.IsTuple.at pa fun o => hk _ o⟩, hi2, Heap.IsTuple.at pb fun o => hk _ o⟩
  have I2 : Inv X pins σ H1 { s1 with heap := g } := I1.kept (t' := s1.toks) hk
  refine call_dict_pairs (knd := mixKind X.prog X.w) (kvs := (ks.map (Sum.inl : Int → L2.Key)).zip ub) (pair_arg_zip (P := X.prog) (w := X.w) D (xs := ua.toArray) (ys := ub.toArray) (by simp [n1, n2])) (I1.ok.hd hc) ok ⟨by simp [n1, n2], fun i k v h => fits i k v (by simpa using h.1) (by simpa using h.2)⟩ (by
    rw [List.length_map] at za
    simp only [List.size_toArray]
    rw [n1]
    exact za) fun g2 tk hd hk2 => ?_
  have gz : g.objs.size = s1.heap.objs.size + 5 := hsz
  have hlen : (mergeK [] (zipK ks ys)).length ≤ sizeLine := by
    refine Nat.le_trans (length_mergeK _ []) ?_
    rw [List.length_nil, Nat.zero_add, List.length_zip, List.length_map, hl, Nat.min_self]
    rw [List.length_map] at za
    exact za
  have hm3 : (g.objs.size == sysModules) = false := beq_eq_false_iff_ne.mpr (Nat.ne_of_gt (by rw [gz]; exact Nat.lt_add_right 5 I1.big))
  have hold : ∀ b o, s1.heap.get? b = some o → g2.get? b = some o := fun b o e => by
    have lt := Heap.lt_size e
    have e5 : ∀ k, b ≠ s1.heap.objs.size + k := fun k z => Nat.lt_irrefl _ (Nat.lt_of_le_of_lt (Nat.le_add_right s1.heap.objs.size k) (z ▸ lt))
    refine hk2 b o (fun z => ?_) (hk b o e)
    simp only [List.mem_cons, List.not_mem_nil, or_false] at z
    rcases z with z | z | z | z
    · exact e5 4 z
    · exact e5 3 z
    · exact e5 0 z
    · exact e5 1 z
  have le : s1.heap.objs.size ≤ g.objs.size := by rw [gz]; exact Nat.le_add_right _ _
  exact ⟨.ref g.objs.size, upd H1 g.objs.size (.dK (mergeK [] (zipK ks ys))), I1.laid (t' := tk) hold le (show ObjOk X.prog X.w _ _ _ (.dK (mergeK [] (zipK ks ys))) from ⟨hlen, hm3, merged [] ((ks.map (Sum.inl : Int → L2.Key)).zip ub), KV.merge rel .nil, hd⟩), rfl, q1 _ (I1.hok.fresh le)⟩
end Tl
end S_Yz
section S_Qe
namespace P04
open PySem PySem.Spec PyProof.Rows L2 Tl Hk
theorem lot_yes {ns : List Int} (h1 : ∀ x ∈ ns, 1 ≤ x) (h2 : ns.Nodup) : lotV (ns.map V.int) = true := by
  unfold lotV
  rw [decide_eq_true ((nodup_int ns).mpr h2), Bool.and_true, List.all_eq_true]
  intro v hv
  obtain ⟨i, hi, rfl⟩ := List.mem_map.mp hv
  show (decide (1 ≤ i) && true) = true
  rw [decide_eq_true (h1 i hi)]
  rfl
theorem in_ints (x : Int) (ns : List Int) : inV (.int x) (ns.map V.int) = decide (x ∈ ns) := by
  unfold inV
  induction ns with
  | nil => rfl
  | cons a r ih =>
    rw [List.map_cons, List.any_cons, ih]
    have e : eqV (.int a) (.int x) = decide (x = a) := by
      show decide (a = x) = decide (x = a)
      exact decide_eq_decide.mpr eq_comm
    rw [e, ← Bool.decide_or]
    exact decide_eq_decide.mpr List.mem_cons.symm
theorem flat_ints (ns : List Int) : (ns.map V.int).all flatV = true := by
  rw [List.all_eq_true]
  intro v hv
  obtain ⟨i, _, rfl⟩ := List.mem_map.mp hv
  rfl
/-- turns that a web may have -/
structure OkT (ts : List (List Int)) : Prop where
  pos : 1 ≤ ts.length
  most : ts.length ≤ 1000
  pl : ∀ (i : Nat) (ns : List Int), ts[i]? = some ns → ns.Nodup ∧ (∀ x ∈ ns, 1 ≤ x ∧ x ≤ (ts.length : Int)) ∧ ((i : Int) + 1) ∉ ns
  sym : ∀ (i : Nat) (ns : List Int) (o : Int), ts[i]? = some ns → o ∈ ns → ∃ ms, ts[(o - 1).toNat]? = some ms ∧ ((i : Int) + 1) ∈ ms
  few : (ts.map List.length).sum ≤ 30000
theorem nodup_len {n : Nat} : ∀ {ns : List Int}, ns.Nodup → (∀ x ∈ ns, 1 ≤ x ∧ x ≤ (n : Int)) → ns.length ≤ n := by
  induction n with
  | zero =>
    intro ns _ h
    cases ns with
    | nil => exact Nat.le_refl _
    | cons x r => have := h x List.mem_cons_self; omega
  | succ n ih =>
    intro ns hn h
    by_cases hm : ((n + 1 : Nat) : Int) ∈ ns
    · have h2 := ih (hn.erase ((n + 1 : Nat) : Int)) fun x hx => by
        have := hn.mem_erase_iff.mp hx
        have := h x this.2
        omega
      rw [List.length_erase_of_mem hm] at h2
      omega
    · have h2 := ih hn fun x hx => by
        have := h x hx
        have : x ≠ ((n + 1 : Nat) : Int) := fun z => hm (z ▸ hx)
        omega
      omega
theorem OkT.short {ts : List (List Int)} (T : OkT ts) {i : Nat} {ns : List Int} (h : ts[i]? = some ns) : ns.length ≤ 1000 := by
  obtain ⟨a, b, _⟩ := T.pl i ns h
  exact Nat.le_trans (nodup_len a b) T.most
/-- the lists (tuples) of ints at as -/
def RowsL (H : Hp) (as : List Addr) (ts : List (List Int)) : Prop := as.length = ts.length ∧ ∀ (i : Nat) (a : Addr) (ns : List Int), as[i]? = some a → ts[i]? = some ns → H a = some (.lst (ns.map V.int))
def RowsT (H : Hp) (as : List Addr) (ts : List (List Int)) : Prop := as.length = ts.length ∧ ∀ (i : Nat) (a : Addr) (ns : List Int), as[i]? = some a → ts[i]? = some ns → H a = some (.tup (ns.map V.int))
/-- a list of lists, a tuple of tuples -/
def LL (H : Hp) (l : Addr) (ts : List (List Int)) : Prop := ∃ as : List Addr, H l = some (.lst (as.map V.ref)) ∧ RowsL H as ts
def TT (H : Hp) (l : Addr) (ts : List (List Int)) : Prop := ∃ as : List Addr, H l = some (.tup (as.map V.ref)) ∧ RowsT H as ts
theorem RowsL.ex {A B : Hp} {as : List Addr} {ts : List (List Int)} (h : RowsL A as ts) (e : Evl.Ex A B) : RowsL B as ts := ⟨h.1, fun i a ns h1 h2 => e _ _ (h.2 i a ns h1 h2)⟩
theorem RowsT.ex {A B : Hp} {as : List Addr} {ts : List (List Int)} (h : RowsT A as ts) (e : Evl.Ex A B) : RowsT B as ts := ⟨h.1, fun i a ns h1 h2 => e _ _ (h.2 i a ns h1 h2)⟩
theorem LL.ex {A B : Hp} {l : Addr} {ts : List (List Int)} (h : LL A l ts) (e : Evl.Ex A B) : LL B l ts := h.imp fun as h => ⟨e _ _ h.1, h.2.ex e⟩
theorem TT.ex {A B : Hp} {l : Addr} {ts : List (List Int)} (h : TT A l ts) (e : Evl.Ex A B) : TT B l ts := h.imp fun as h => ⟨e _ _ h.1, h.2.ex e⟩
theorem refs_getD {as : List Addr} {i : Nat} {a : Addr} (h : as[i]? = some a) : (as.map V.ref).getD i .non = .ref a := by
  rw [List.getD_eq_getElem?_getD, List.getElem?_map, h]
  rfl
theorem ints_getD {ns : List Int} {i : Nat} (h : i < ns.length) : (ns.map V.int).getD i .non = .int (ns.getD i 0) := by
  rw [List.getD_eq_getElem?_getD, List.getElem?_map, List.getD_eq_getElem?_getD, List.getElem?_eq_getElem h]
  rfl
theorem both_at {α β : Type} {as : List α} {bs : List β} (h : as.length = bs.length) {i : Nat} (hi : i < as.length) : ∃ a b, as[i]? = some a ∧ bs[i]? = some b := ⟨as[i], bs[i]'(h ▸ hi), List.getElem?_eq_getElem hi, List.getElem?_eq_getElem _⟩
section
open Evl
variable {K : PySem.W.Frag} {σ : L2.St} {H : Hp}
theorem ev_allH {ta : TE} {n : Nat} (h : EvNL ta σ H (Holds (fun _ v _ => v = .bl true) n)) : Ev (tCB (rAll K) (tCons ta tNil)) σ H (.bl true) := fun H1 e Q q =>
  h H1 e _ fun p xs H2 hp e2 h2 hL => by
    obtain ⟨_, a2⟩ := hL H2 (e.trans e2) fun a o _ _ h => h
    have ex : xs = (List.replicate xs.length true).map V.bl := by
      rw [List.map_replicate]
      exact List.eq_replicate_iff.mpr ⟨rfl, fun v hv => by
        obtain ⟨i, hi, rfl⟩ := List.mem_iff_getElem.mp hv
        exact a2 i _ (List.getElem?_eq_getElem hi)⟩
    refine ⟨p, List.replicate xs.length true, rfl, sq_of (by rw [← ex]; exact h2), ?_⟩
    have : (List.replicate xs.length true).all id = true := List.all_eq_true.mpr fun b hb => (List.mem_replicate.mp hb).2
    rw [this]
    exact q H2 e2
theorem ev_allR {ta : TE} {β : Type} {bs : List β} (h : EvNL ta σ H (Row2 (fun _ v _ => v = .bl true) bs)) : Ev (tCB (rAll K) (tCons ta tNil)) σ H (.bl true) :=
  ev_allH (n := bs.length) fun H1 e Q q => h H1 e Q fun p xs H2 hp e2 h2 hL => q p xs H2 hp e2 h2 fun H3 h3 k => by
    obtain ⟨a1, a2⟩ := hL H3 h3 k
    exact ⟨a1, fun i v hv => by
      have hi := (List.getElem?_eq_some_iff.mp hv).1
      exact a2 i (bs[i]'(by omega)) v (List.getElem?_eq_getElem _) hv⟩
end
theorem scIsTurn : FnScope ["turn", "place", "many", "other"] ["turn", "place", "many"] (defScope sIsTurn) := ⟨rfl, rfl, rfl, by decide +kernel, rfl, by decide +kernel, by decide +kernel⟩
theorem scAre : FnScope ["turns", "many", "at", "turn", "tied", "other"] ["turns"] (defScope sAreTurns) := ⟨rfl, rfl, rfl, by decide +kernel, rfl, by decide +kernel, by decide +kernel⟩
def spIsTurn (K : PySem.W.Frag) : Sp := fun vs H Q _ => ∃ (a : Addr) (ns : List Int) (p m : Int), vs = [.ref a, .int p, .int m] ∧ SqL K H a (ns.map V.int) ∧ ns.length ≤ 4000 ∧ ns.Nodup ∧ (∀ x ∈ ns, 1 ≤ x ∧ x ≤ m) ∧ p ∉ ns ∧ ∀ H1, Evl.Ex H H1 → Q (.bl true) H1
theorem spv_isTurn {K : PySem.W.Frag} {H : Hp} {a : Addr} {ns : List Int} {p m : Int} (h : SqL K H a (ns.map V.int)) (hl : ns.length ≤ 4000) (hn : ns.Nodup) (hb : ∀ x ∈ ns, 1 ≤ x ∧ x ≤ m) (hp : p ∉ ns) : Evl.SpV (spIsTurn K) [.ref a, .int p, .int m] H (.bl true) :=
  fun H1 e Q q E => ⟨a, ns, p, m, rfl, Evl.ex_l e h, hl, hn, hb, hp, q⟩
section
variable {P : Program} {w : World} {K : PySem.W.Frag} {mg : Str → Option Value} {base : Heap}
theorem ok_isTurn {f fO : Addr} {fd fdO : FuncData} {k : Nat} (F : Fun K "_is_turn" "_is_turn" sIsTurn f fd)
    (FO : Fun K "is_lot" "is_lot" sLot fO fdO) (GO : FnOk P w K mg base CX0 k fO fdO ["value"] (spLot K)) (bO : Binds K fdO ["value"] []) (gO : mg "is_lot" = some (.ref fO)) (mall : mg "all" = none) :
    FnOk P w K mg base CX0 (k + 1) f fd ["turn", "place", "many"] (spIsTurn K) := by
  refine F.ok scIsTurn (fun vs H Q E h => ?_) (fun cdv A outer s H vs Q E hr h => ?_)
  · obtain ⟨a, ns, p, m, rfl, _⟩ := h
    rfl
  · obtain ⟨a, ns, p, m, rfl, hS, hl, hn, hb, hp, q⟩ := h
    have nd := scIsTurn.nd
    refine ⟨_, pss_one (ps_ret (pe_and (pe_call GO hr (by rfl) gO FO.kp bO .nil pass0 (pa_cons (pv 0) pa_nil)) (pe_and (pe_cmpR op_notIn_seq (pv 1) (pv 0) (by rfl)) (pe_one (pe_callB (cr_all rfl) (by rfl) mall (by decide +kernel) (pa_cons
      (pe_lc (own := [("other", 3)]) (g := gName 3) (tt := tYes) rfl nd (pi_list (pv 0)) (blkOk_by (N := ["turn", "place", "many", "other"]) (sc := defScope sIsTurn) (by decide +kernel)) (fun _ _ _ _ _ => pg_name (i := 3) nd rfl (Or.inl rfl)) (fun _ _ _ _ _ => pts_nil)
        (fun _ _ _ _ _ => pe_cmpR op_le (pv 3) (pv 2) (nomark _))) pa_nil)))))), ?_⟩
    have hlot := lot_yes (ns := ns) (fun x hx => (hb x hx).1) hn
    refine Evl.s_ret (v := .bl true) (Evl.ev_is (Evl.ev_andV (a := true) (b := true) (Evl.ev_is (Evl.ev_call (Evl.ea_cons (Evl.ev_var rfl) Evl.ea_nil) (spv_lot (.lst hS (by rw [List.length_map]; exact hl) fun v hv => by
      obtain ⟨i, _, rfl⟩ := List.mem_map.mp hv
      exact ⟨_, .int i⟩))) (by rw [hlot])) fun _ => Evl.ev_is (Evl.ev_andV (a := true) (b := true) (Evl.ev_is (Evl.ev_op (Evl.ev_var rfl) (Evl.ev_var rfl) (Evl.rv_niL hS rfl (flat_ints ns))) (by rw [in_ints, decide_eq_false hp] <;> rfl)) fun _ => ?_) rfl) rfl) fun H1 e1 => q H1 e1
    refine ev_allH (n := ns.length) ?_
    have e0 : ns.length = (ns.map V.int).length := by rw [List.length_map]
    rw [e0]
    refine en_lc (ei_list (Evl.ev_var rfl) hS) aims_at (fun _ => rfl) (by rw [List.length_map]; omega) _ fun i hi => en_v ?_
    rw [List.length_map] at hi
    have hm := (hb _ (List.getElem_mem hi)).2
    refine Evl.ev_is (Evl.ev_op (x := .int ns[i]) (Evl.ev_is (Evl.ev_var rfl) ?_) (Evl.ev_var rfl) Evl.rv_I0) (by rw [decide_eq_true hm])
    rw [ints_getD hi, List.getD_eq_getElem?_getD, List.getElem?_eq_getElem hi]
    rfl
end
end P04
end S_Qe
section S_Qf
namespace P04
open PySem PySem.Spec PyProof.Rows L2 Tl Hk
def spAre (K : PySem.W.Frag) : Sp := fun vs H Q _ => ∃ (l : Addr) (ts : List (List Int)), vs = [.ref l] ∧ LL H l ts ∧ OkT ts ∧ ∀ H1, Evl.Ex H H1 → Q (.bl true) H1
theorem spv_are {K : PySem.W.Frag} {H : Hp} {l : Addr} {ts : List (List Int)} (h : LL H l ts) (T : OkT ts) : Evl.SpV (spAre K) [.ref l] H (.bl true) := fun H1 e Q q E => ⟨l, ts, rfl, h.ex e, T, q⟩
/-- the places each row tells, one by one -/
theorem len_rows (ts : List (List Int)) : ∀ n, n ≤ ts.length → (rows (fun i => (ts.getD i []).length) (fun _ _ => true) (fun i j => (i, j)) n).length = ((ts.take n).map List.length).sum
  | 0, _ => rfl
  | n + 1, h => by
    rw [rows_succ, List.length_append, len_rows ts n (by omega)]
    have e : (els (fun i => (ts.getD i []).length) (fun _ _ => true) (fun i j => (i, j)) n).length = (ts.getD n []).length := by
      unfold els
      rw [List.length_map, List.filter_eq_self.mpr (fun _ _ => rfl), List.length_range]
    have e2 : ts.getD n [] = ts[n]'(by omega) := by rw [List.getD_eq_getElem?_getD, List.getElem?_eq_getElem (by omega)] <;> rfl
    rw [e, List.take_add_one, List.getElem?_eq_getElem (by omega), e2, List.map_append, List.sum_append]
    simp
theorem rows_most {β : Type} {m : Nat → Nat} {f : Nat → Nat → Bool} {b : Nat → Nat → β} : ∀ n, (rows m f b n).length ≤ (rows m (fun _ _ => true) (fun i j => (i, j)) n).length
  | 0 => Nat.le_refl _
  | n + 1 => by
    rw [rows_succ, rows_succ, List.length_append, List.length_append]
    refine Nat.add_le_add (rows_most n) ?_
    unfold els
    rw [List.length_map, List.length_map, List.filter_eq_self.mpr (fun _ _ => rfl)]
    exact List.length_filter_le _ _
theorem OkT.rows {ts : List (List Int)} (T : OkT ts) {β : Type} {f : Nat → Nat → Bool} {b : Nat → Nat → β} : (rows (fun i => (ts.getD i []).length) f b ts.length).length ≤ 90000 := by
  refine Nat.le_trans (rows_most _) ?_
  rw [len_rows ts _ (Nat.le_refl _), List.take_length]
  exact Nat.le_trans T.few (by decide)
section
open Evl
theorem go_nl {te : TE} {σ : L2.St} {H : Hp} {L : List V → Hp → Prop} {Q : VK} (h : EvNL te σ H L) (k : ∀ p xs H1, H p = none → Ex H H1 → H1 p = some (.lst xs) → L xs H1 → Q (.ref p) H1) : te σ H Q := h H (Ex.refl H) Q fun p xs H1 hp e h1 hL => k p xs H1 hp e h1 (hL H1 e fun _ _ _ _ h => h)
theorem go_n {te : TE} {σ : L2.St} {H : Hp} {R : V → Hp → Prop} {Q : VK} (h : EvN te σ H R) (k : ∀ v H1, Ex H H1 → R v H1 → Q v H1) : te σ H Q := h H (Ex.refl H) Q fun v H1 e hR => k v H1 e (hR H1 e fun _ _ _ h => h)
theorem q_asgNL {te : TE} {tz : TS} {i : Nat} {σ : L2.St} {H : Hp} {D : Ends} {L : List V → Hp → Prop} (h : EvNL te σ H L) (k : ∀ p xs H1, H p = none → Ex H H1 → H1 p = some (.lst xs) → L xs H1 → tz D (σ.set i (some (.ref p))) H1) : tSeq (tAsg te (gName i)) tz D σ H :=
  go_nl h k
end
section
variable {P : Program} {w : World} {K : PySem.W.Frag} {mg : Str → Option Value} {base : Heap}
set_option maxHeartbeats 2000000 in
theorem ok_are {f fW fL fI : Addr} {fd fdW fdL fdI : FuncData} {k : Nat} (F : Fun K "_are_turns" "_are_turns" sAreTurns f fd)
    (FW : Fun K "is_within" "is_within" sWithin fW fdW) (GW : FnOk P w K mg base CX0 k fW fdW ["value", "least", "most"] (spWithin K)) (bW : Binds K fdW ["value", "least", "most"] []) (gW : mg "is_within" = some (.ref fW))
    (FL : Fun K "is_list" "is_list" sList fL fdL) (GL : FnOk P w K mg base CX0 k fL fdL ["value"] (spList K)) (bL : Binds K fdL ["value"] []) (gL : mg "is_list" = some (.ref fL))
    (FI : Fun K "_is_turn" "_is_turn" sIsTurn fI fdI) (GI : FnOk P w K mg base CX0 k fI fdI ["turn", "place", "many"] (spIsTurn K)) (bI : Binds K fdI ["turn", "place", "many"] []) (gI : mg "_is_turn" = some (.ref fI))
    {tM : Tok} (gM : mg "MOST_PLACES" = some (.int 1000 tM)) (mall : mg "all" = none) (mlen : mg "len" = none) (menum : mg "enumerate" = none) :
    FnOk P w K mg base CX0 (k + 1) f fd ["turns"] (spAre K) := by
  refine F.ok scAre (fun vs H Q E h => ?_) (fun cdv A outer s H vs Q E hr h => ?_)
  · obtain ⟨l, ts, rfl, _⟩ := h
    rfl
  · obtain ⟨l, ts, rfl, hL, hT, q⟩ := h
    have nd := scAre.nd
    refine ⟨_, pss_cons (ps_if (PW.pt (pw_or (pt_not (pt_val (pe_call GL hr (by rfl) gL FL.kp bL .nil pass0 (pa_cons (pv 0) pa_nil)))) (pw_or1 (pt_not (pt_val (pe_call GW hr (by rfl) gW FW.kp bW .nil pass0
          (pa_cons (pe_callB call_len_seq (by rfl) mlen PySem.boot_len (pa_cons (pv 0) pa_nil)) (pa_cons pe_int (pa_cons (pe_glob (v := .int 1000) (by rfl) gM ⟨_, rfl⟩) pa_nil))))))))) (pss_one (ps_ret pe_bl)) pss_nil)
      (pss_cons (ps_set (i := 1) nd rfl (.inr rfl) (pe_callB call_len_seq (by rfl) mlen PySem.boot_len (pa_cons (pv 0) pa_nil)))
      (pss_cons (ps_if (pt_not (pt_val (pe_callB (cr_all rfl) (by rfl) mall (by decide +kernel) (pa_cons
          (pe_lc (own := [("at", 2), ("turn", 3)]) (g := gTup K 2 (gCons (gName 2) (gCons (gName 3) gNil))) (tt := tYes) rfl nd (pi_enum (by rfl) menum (pa_cons (pv 0) pa_nil)) (blkOk_by (N := ["turns", "many", "at", "turn", "tied", "other"]) (sc := defScope sAreTurns) (by decide +kernel))
            (fun _ _ _ _ _ => pg_tup (by rfl) (pgs_cons (pg_name (i := 2) nd rfl (Or.inl rfl)) (pgs_cons (pg_name (i := 3) nd rfl (Or.inl rfl)) pgs_nil))) (fun _ _ _ _ _ => pts_nil)
            (fun _ _ _ _ _ => pe_call GI hr (by rfl) gI FI.kp bI .nil pass0 (pa_cons (pv 3) (pa_cons (pe_op op_add (pv 2) pe_int) (pa_cons (pv 1) pa_nil))))) pa_nil)))) (pss_one (ps_ret pe_bl)) pss_nil)
      (pss_cons (ps_set (i := 4) nd rfl (.inr rfl) (pe_lc (own := [("turn", 3)]) (g := gName 3) (tt := tYes) rfl nd (pi_list (pv 0)) (blkOk_by (N := ["turns", "many", "at", "turn", "tied", "other"]) (sc := defScope sAreTurns) (by decide +kernel))
            (fun _ _ _ _ _ => pg_name (i := 3) nd rfl (Or.inl rfl)) (fun _ _ _ _ _ => pts_nil)
            (fun _ _ _ _ _ => pe_dc (own := [("other", 5)]) (wi := iList K (tVar 3)) (g := gName 5) (tt := tYes) rfl nd (pi_list (pv 3)) (blkOk_by (N := ["turns", "many", "at", "turn", "tied", "other"]) (sc := { kind := .function, names := [(".0", .local), ("turn", .local)], isGenerator := false, isCoroutine := false }) (by decide +kernel))
              (fun _ _ _ _ _ => pg_name (i := 5) nd rfl (Or.inl rfl)) (fun _ _ _ _ _ => pts_nil) (fun _ _ _ _ _ => pv 5) (fun _ _ _ _ _ => pe_bl))))
      (pss_one (ps_ret (pe_callB (cr_all rfl) (by rfl) mall (by decide +kernel) (pa_cons
          (pe_lc2 (own := [("at", 2), ("turn", 3), ("other", 5)]) (vs1 := [5]) (wi1 := iList K (tVar 3)) (g := gTup K 2 (gCons (gName 2) (gCons (gName 3) gNil))) (g1 := gName 5) (tt := tYes) (tt1 := tYes) rfl nd (pi_enum (by rfl) menum (pa_cons (pv 0) pa_nil)) (blkOk_by (N := ["turns", "many", "at", "turn", "tied", "other"]) (sc := defScope sAreTurns) (by decide +kernel)) (by decide)
            (fun _ _ _ _ _ => pg_tup (by rfl) (pgs_cons (pg_name (i := 2) nd rfl (Or.inl rfl)) (pgs_cons (pg_name (i := 3) nd rfl (Or.inl rfl)) pgs_nil))) (fun _ _ _ _ _ => pts_nil)
            (fun _ _ _ _ _ => pi_list (pv 3)) (fun _ _ _ _ _ => pg_name (i := 5) nd rfl (Or.inl rfl)) (fun _ _ _ _ _ => pts_nil)
            (fun _ _ _ _ _ => pe_cmp (pc_din (hu_of hr) (pe_op op_add (pv 2) pe_int) (pe_ix (r := rIxL K) ix_list (pv 4) (pe_op op_sub (pv 5) pe_int) (fun _ _ => rfl))) rfl)) pa_nil))))))), ?_⟩
    obtain ⟨as, hl, ha, hrow⟩ := hL
    have hmap : (as.map V.ref).length = ts.length := by rw [List.length_map, ha]
    have item : ∀ i, i < ts.length → ∃ a ns, as[i]? = some a ∧ ts[i]? = some ns ∧ H a = some (.lst (ns.map V.int)) := fun i hi => by
      obtain ⟨a, ns, h1, h2⟩ := both_at ha (show i < as.length by omega)
      exact ⟨a, ns, h1, h2, hrow i a ns h1 h2⟩
    have p1 := hT.pos
    have p2 := hT.most
    refine Evl.q_when (b := false) (Evl.et_is (Evl.et_or (b := false) (Evl.et_is (Evl.et_not (Evl.et_B (Evl.ev_call (Evl.ea_cons (Evl.ev_var rfl) Evl.ea_nil) (spv_list (.lst (Evl.sq_of hl)))))) (b := false) (by decide)) fun _ =>
      Evl.et_is (Evl.et_not (Evl.et_B (Evl.ev_call (Evl.ea_cons (Evl.ev_len (Evl.ev_var rfl) (Evl.sq_of hl)) (Evl.ea_cons Evl.ev_c (Evl.ea_cons Evl.ev_c Evl.ea_nil))) (spv_within (.int _) True.intro True.intro)))) (b := false) ?_) rfl) (fun z => by cases z) fun _ H1 e1 => ?_
    · show (!(decide ((1 : Int) ≤ ((as.map V.ref).length : Int)) && decide (((as.map V.ref).length : Int) ≤ 1000))) = false
      rw [decide_eq_true (by omega), decide_eq_true (by omega)]
      rfl
    refine Evl.q_asg (Evl.ev_len (Evl.ev_var rfl) (Evl.sq_of (e1 _ _ hl))) fun H2 e2 => ?_
    have e02 := e1.trans e2
    refine Evl.q_when (b := false) (Evl.et_is (Evl.et_not (Evl.et_B (ev_allH (n := (as.map V.ref).length) (en_lc (ei_enum (Evl.ea_cons (Evl.ev_var rfl) Evl.ea_nil) (Evl.sq_of (e02 _ _ hl))) aims_enum (fun _ => rfl) (by omega) _ fun i hi => en_v ?_)))) rfl) (fun z => by cases z) fun _ H3 e3 => ?_
    · obtain ⟨a, ns, h1, h2, h3⟩ := item i (by omega)
      obtain ⟨t1, t2, t3⟩ := hT.pl i ns h2
      have := hT.short h2
      refine Evl.ev_call (Evl.ea_cons (x := .ref a) (Evl.ev_is (Evl.ev_var rfl) (refs_getD h1)) (Evl.ea_cons (Evl.ev_op (Evl.ev_var rfl) Evl.ev_c Evl.rv_I0) (Evl.ea_cons (Evl.ev_var rfl) Evl.ea_nil))) (spv_isTurn (Evl.sq_of (e02 _ _ h3)) (by omega) t1 (fun x hx => ?_) t3)
      rw [hmap]
      exact t2 x hx
    have e03 := e02.trans e3
    refine q_asgNL (L := Holds (fun i v H' => ∃ ns d, ts[i]? = some ns ∧ v = .ref d ∧ H' d = some (.dK (dOf (fun j => ns.getD j 0) ns.length))) (as.map V.ref).length) (en_lc (ei_list (Evl.ev_var rfl) (Evl.sq_of (e03 _ _ hl))) aims_at (fun _ => rfl) (by omega) _ fun i hi => ?_) fun p xs H4 hp e4 h4 hL4 => ?_
    · obtain ⟨a, ns, h1, h2, h3⟩ := item i (by omega)
      have hs := hT.short h2
      have e0 : (ns.map V.int).length = ns.length := List.length_map ..
      refine fun H5 e5 Q q => en_dc (kf := fun j => ns.getD j 0) (n := (ns.map V.int).length) (ei_list (Evl.ev_is (Evl.ev_var rfl) (refs_getD h1)) (Evl.sq_of (e03 _ _ h3))) aims_at (fun _ => rfl) (by omega) (fun j hj => Evl.ev_is (Evl.ev_var rfl) (ints_getD (by omega))) (fun j hj => Evl.ev_c) H5 e5 Q fun v H6 e6 hv => q v H6 e6 fun H7 e7 s7 => ?_
      obtain ⟨d, rfl, hd⟩ := hv H7 e7 s7
      exact ⟨ns, d, h2, rfl, by rw [← e0]; exact hd⟩
    have e04 := e03.trans e4
    obtain ⟨l4, h4at⟩ := hL4
    refine Evl.s_ret (ev_allR (bs := rows (fun i => (ts.getD i []).length) (fun _ _ => true) (fun i j => (i, j)) (as.map V.ref).length) ?_) fun H5 e5 => q H5 (e04.trans e5)
    refine en_lc2 (Y1 := fun i => YAt ((ts.getD i []).map V.int)) (s1 := fun i j σ => σ.set 5 (some (((ts.getD i []).map V.int).getD j .non))) (ei_enum (Evl.ea_cons (Evl.ev_var rfl) Evl.ea_nil) (Evl.sq_of (e04 _ _ hl))) aims_enum (fun _ => rfl) (fun i hi => ?_) (fun i => ?_) (fun i j => rfl) _ _ _ (fun i j hi hj => et_yes) (fun i j hi hj _ => en_v ?_) ?_
    · obtain ⟨a, ns, h1, h2, h3⟩ := item i (by omega)
      have ed : ts.getD i [] = ns := by rw [List.getD_eq_getElem?_getD, h2]; rfl
      rw [ed]
      have e0 : (ns.map V.int).length = ns.length := List.length_map ..
      rw [← e0]
      exact ei_list (Evl.ev_is (Evl.ev_var rfl) (refs_getD h1)) (Evl.sq_of (e04 _ _ h3))
    · have e0 : ((ts.getD i []).map V.int).length = (ts.getD i []).length := List.length_map ..
      have := aims_at (xs := (ts.getD i []).map V.int) (j := 5)
      rw [e0] at this
      exact this
    · obtain ⟨a, ns, h1, h2, h3⟩ := item i (by omega)
      have ed : ts.getD i [] = ns := by rw [List.getD_eq_getElem?_getD, h2]; rfl
      rw [ed] at hj ⊢
      obtain ⟨t1, t2, t3⟩ := hT.pl i ns h2
      have hm : ns[j] ∈ ns := List.getElem_mem hj
      have hb := t2 _ hm
      obtain ⟨ms, hms, hmem⟩ := hT.sym i ns ns[j] h2 hm
      have hx : (ns[j] - 1).toNat < xs.length := by rw [l4]; omega
      obtain ⟨ns2, d, k1, k2, k3⟩ := h4at _ _ (List.getElem?_eq_getElem hx)
      rw [hms] at k1
      cases k1
      have ej : ns.getD j 0 = ns[j] := by rw [List.getD_eq_getElem?_getD, List.getElem?_eq_getElem hj]; rfl
      have hin : (valV (dOf (fun j => ms.getD j 0) ms.length) (.inl ((i : Int) + 1))).isSome = true := by
        rw [dOf_at]
        obtain ⟨j2, hj2, e2⟩ := List.mem_iff_getElem.mp hmem
        exact ⟨j2, hj2, by rw [List.getD_eq_getElem?_getD, List.getElem?_eq_getElem hj2, ← e2]; rfl⟩
      refine Evl.ev_is (ev_din (d := d) (Evl.ev_op (Evl.ev_var rfl) Evl.ev_c Evl.rv_I0) (Evl.ev_op (Evl.ev_var rfl) (Evl.ev_op (x := .int ns[j]) (Evl.ev_is (Evl.ev_var rfl) (by rw [ints_getD hj, ej])) Evl.ev_c Evl.rv_I0) (Evl.rv_ixL (Evl.sq_of h4) ?_)) k3) (by rw [hin])
      have en : ns[j] - 1 = ((ns[j] - 1).toNat : Int) := by omega
      rw [en]
      exact atI_nat (by rw [← k2]; exact List.getElem?_eq_getElem hx)
    · rw [hmap]
      exact hT.rows
end
end P04
end S_Qf
section S_Qg
namespace P04
open PySem PySem.Spec PyProof.Rows L2 Tl Hk
/-! ### sorted -/
def ins (x : Int) : List Int → List Int
  | [] => [x]
  | y :: r => if x ≤ y then x :: y :: r else y :: ins x r
def srt : List Int → List Int
  | [] => []
  | x :: r => ins x (srt r)
theorem ins_perm (x : Int) : ∀ l, (ins x l).Perm (x :: l)
  | [] => .refl _
  | y :: r => by
    unfold ins
    split
    · exact .refl _
    · exact ((ins_perm x r).cons y).trans (.swap x y r)
theorem srt_perm : ∀ l, (srt l).Perm l
  | [] => .refl _
  | x :: r => (ins_perm x _).trans ((srt_perm r).cons x)
theorem ins_up (x : Int) : ∀ l, l.Pairwise (· ≤ ·) → (ins x l).Pairwise (· ≤ ·)
  | [], _ => List.pairwise_singleton _ _
  | y :: r, h => by
    have h2 := List.pairwise_cons.mp h
    unfold ins
    split
    · rename_i hxy
      refine List.pairwise_cons.mpr ⟨fun a ha => ?_, h⟩
      rcases List.mem_cons.mp ha with e | e
      · rw [e]; exact hxy
      · exact Int.le_trans hxy (h2.1 a e)
    · rename_i hxy
      refine List.pairwise_cons.mpr ⟨fun a ha => ?_, ins_up x r h2.2⟩
      rcases List.mem_cons.mp ((ins_perm x r).mem_iff.mp ha) with e | e
      · rw [e]; omega
      · exact h2.1 a e
theorem srt_up : ∀ l, (srt l).Pairwise (· ≤ ·)
  | [] => List.Pairwise.nil
  | x :: r => ins_up x _ (srt_up r)
theorem up_uniq : ∀ {a b : List Int}, a.Perm b → a.Pairwise (· ≤ ·) → b.Pairwise (· ≤ ·) → a = b
  | [], b, p, _, _ => (List.nil_perm.mp p).symm
  | x :: r, [], p, _, _ => absurd p.length_eq (by simp)
  | x :: r, y :: q, p, h1, h2 => by
    have a1 := List.pairwise_cons.mp h1
    have a2 := List.pairwise_cons.mp h2
    have e : x = y := by
      have m1 : x ∈ y :: q := p.mem_iff.mp List.mem_cons_self
      have m2 : y ∈ x :: r := p.mem_iff.mpr List.mem_cons_self
      rcases List.mem_cons.mp m1 with e | e
      · exact e
      · rcases List.mem_cons.mp m2 with z | z
        · exact z.symm
        · exact Int.le_antisymm (a1.1 y z) (a2.1 x e)
    subst e
    rw [up_uniq (List.Perm.cons_inv p) a1.2 a2.2]
theorem srt_of {a b : List Int} (p : a.Perm b) (h : a.Pairwise (· ≤ ·)) : a = srt b := up_uniq (p.trans (srt_perm b).symm) h (srt_up b)
section
open Evl
variable {K : PySem.W.Frag} {σ : L2.St} {H : Hp}
theorem el_sorted {ta : TE} {a : Addr} {ns : List Int} (h : Ev ta σ H (.ref a)) (hs : SqL K H a (ns.map V.int) ∨ SqT K H a (ns.map V.int)) : EvL (tCB (rSortedU K) (tCons ta tNil)) σ H ((srt ns).map V.int) := fun H1 e Q q =>
  h H1 e _ fun H2 e2 => ⟨a, ns, rfl, hs.imp (ex_l (e.trans e2)) (ex_t (e.trans e2)), fun ms p hp hu hn => by
    rw [srt_of hp hu]
    exact q p _ (fresh_back e2 hn) (e2.trans (Ex.new hn)) upd_same⟩
theorem s_retN {te : TE} {D : Ends} {R : V → Hp → Prop} (h : EvN te σ H R) (k : ∀ v H1, Ex H H1 → (∀ H3, Ex H H3 → Since H H1 H3 → R v H3) → D.rt v H1) : tRet te D σ H := h H (Ex.refl H) D.rt k
theorem s_retB {te : TE} {D : Ends} {R : V → Hp → Prop} {B : Hp} (hB : Ex B H) (h : EvN te σ B R) (k : ∀ v H1, Ex H H1 → (∀ H3, Ex B H3 → Since H H1 H3 → R v H3) → D.rt v H1) : tRet te D σ H := h H hB D.rt k
theorem q_asgN {te : TE} {tz : TS} {i : Nat} {D : Ends} {R : V → Hp → Prop} {B : Hp} (hB : Ex B H) (h : EvN te σ B R) (k : ∀ v H1, Ex H H1 → (∀ H3, Ex B H3 → Since H H1 H3 → R v H3) → tz D (σ.set i (some v)) H1) : tSeq (tAsg te (gName i)) tz D σ H := h H hB _ k
theorem q_fldN {ta te : TE} {tz : TS} {D : Ends} {R : V → Hp → Prop} {B : Hp} {f : Str} (hB : Ex B H) (h : EvN te σ B R) (k : ∀ v H1, Ex H H1 → (∀ H3, Ex B H3 → Since H H1 H3 → R v H3) →
    ta σ H1 fun x H2 => ∃ a C dx fs, x = .ref a ∧ H2 a = some (.ins C dx fs) ∧ Cls K C ∧ NoAttr K C f ∧ fs.length < 1000 ∧ tz D σ (upd H2 a (.ins C dx (putF f v fs)))) : tSeq (sFld K ta te f) tz D σ H := h H hB _ k
/-- C: what came between A and B makes R hold -/
def SpN (sp : Sp) (vs : List V) (H : Hp) (R : V → Hp → Prop) : Prop := ∀ H1, Ex H H1 → ∀ Q : VK, (∀ v H2, Ex H1 H2 → (∀ H3, Ex H H3 → Since H1 H2 H3 → R v H3) → Q v H2) → ∀ E : XK, sp vs H1 Q E
theorem en_call {sp : Sp} {dvs vs : List V} {E : XK} {ta : TA} {R : V → Hp → Prop} (h : EvA ta σ H vs) (hs : SpN sp (vs ++ dvs) H R) : EvN (tCall sp dvs E ta) σ H R := fun H1 e Q q =>
  h H1 e _ fun H2 e2 => hs H2 (e.trans e2) Q (fun v H3 e3 hv => q v H3 (e2.trans e3) fun H4 h4 s4 => hv H4 h4 fun a o ha hc => s4 a o (fresh_back e2 ha) hc) E
/-- tuple(list made now) -/
theorem en_tupNL {ta : TE} {L : List V → Hp → Prop} (h : EvNL ta σ H L) : EvN (tCB (fun xs H Q => ∃ p ys, xs = [V.ref p] ∧ ((SqL K H p ys ∧ ∀ l, H l = none → Q (V.ref l) (upd H l (HO.tup ys))) ∨ (SqT K H p ys ∧ Q (V.ref p) H))) (tCons ta tNil)) σ H
    (fun u H' => ∃ t xs, u = .ref t ∧ H' t = some (.tup xs) ∧ L xs H') := fun H1 e Q q =>
  h H1 e _ fun p xs H2 hp e2 h2 hL => ⟨p, xs, rfl, .inl ⟨sq_of h2, fun t ht => q _ _ (e2.trans (Ex.new ht)) fun H3 h3 s3 => ⟨t, xs, rfl, s3 _ _ (fresh_back e2 ht) upd_same, hL H3 h3 fun a o _ ha hb => by
    refine s3 a o ha ?_
    rw [upd_ne (ne_of_none hb ht)]
    exact hb⟩⟩⟩
/-- tuple(list that stands) -/
theorem en_tup {ta : TE} {a : Addr} {xs : List V} (h : Ev ta σ H (.ref a)) (hs : SqL K H a xs) : EvN (tCB (fun xs H Q => ∃ p ys, xs = [V.ref p] ∧ ((SqL K H p ys ∧ ∀ l, H l = none → Q (V.ref l) (upd H l (HO.tup ys))) ∨ (SqT K H p ys ∧ Q (V.ref p) H))) (tCons ta tNil)) σ H
    (fun u H' => ∃ t, u = .ref t ∧ H' t = some (.tup xs)) := fun H1 e Q q =>
  h H1 e _ fun H2 e2 => ⟨a, xs, rfl, .inl ⟨ex_l (e.trans e2) hs, fun t ht => q _ _ (e2.trans (Ex.new ht)) fun H3 _ s3 => ⟨t, rfl, s3 _ _ (fresh_back e2 ht) upd_same⟩⟩⟩
end
/-- the ties: by rows, the lesser place first -/
def tiesOf (ts : List (List Int)) : List (Int × Int) := rows (fun i => (srt (ts.getD i [])).length) (fun i j => decide ((i : Int) + 1 < (srt (ts.getD i [])).getD j 0)) (fun i j => ((i : Int) + 1, (srt (ts.getD i [])).getD j 0)) ts.length
def Tie (p : Int × Int) (v : V) (H : Hp) : Prop := ∃ a, v = .ref a ∧ H a = some (.tup [.int p.1, .int p.2])
/-- the tuple of the ties -/
def TiesAt (H : Hp) (t : Addr) (ts : List (List Int)) : Prop := ∃ xs, H t = some (.tup xs) ∧ Row2 Tie (tiesOf ts) xs H
theorem TiesAt.ex {A B : Hp} {t : Addr} {ts : List (List Int)} (h : TiesAt A t ts) (e : Evl.Ex A B) : TiesAt B t ts := by
  obtain ⟨xs, h1, h2, h3⟩ := h
  refine ⟨xs, e _ _ h1, h2, fun k b v hb hv => ?_⟩
  obtain ⟨a, h4, h5⟩ := h3 k b v hb hv
  exact ⟨a, h4, e _ _ h5⟩
theorem scTies : FnScope ["turns", "at", "turn", "other"] ["turns"] (defScope sTies) := ⟨rfl, rfl, rfl, by decide +kernel, rfl, by decide +kernel, by decide +kernel⟩
def spTies : Sp := fun vs H Q _ => ∃ (l : Addr) (ts : List (List Int)) (B : Hp), vs = [.ref l] ∧ Evl.Ex B H ∧ TT B l ts ∧ OkT ts ∧ ∀ v H1, Evl.Ex H H1 → (∀ H3, Evl.Ex B H3 → Since H H1 H3 → ∃ t, v = .ref t ∧ TiesAt H3 t ts) → Q v H1
section
variable {P : Program} {w : World} {K : PySem.W.Frag} {mg : Str → Option Value} {base : Heap}
theorem srt_len (ns : List Int) : (srt ns).length = ns.length := (srt_perm ns).length_eq
set_option maxHeartbeats 2000000 in
theorem ok_ties {f : Addr} {fd : FuncData} {k : Nat} (F : Fun K "_ties_of" "_ties_of" sTies f fd) (mtup : mg "tuple" = none) (msort : mg "sorted" = none) (menum : mg "enumerate" = none) :
    FnOk P w K mg base CX0 (k + 1) f fd ["turns"] spTies := by
  refine F.ok scTies (fun vs H Q E h => ?_) (fun cdv A outer s H vs Q E hr h => ?_)
  · obtain ⟨l, ts, B, rfl, _⟩ := h
    rfl
  · obtain ⟨l, ts, B, rfl, hB, hL, hT, q⟩ := h
    have nd := scTies.nd
    refine ⟨_, pss_one (ps_ret (pe_callTy call_tuple_of (by rfl) mtup (by decide +kernel) (pa_cons
        (pe_lc2 (own := [("at", 1), ("turn", 2), ("other", 3)]) (vs1 := [3]) (wi1 := iList K (tCB (rSortedU K) (tCons (tVar 2) tNil))) (g := gTup K 2 (gCons (gName 1) (gCons (gName 2) gNil))) (g1 := gName 3) (tt := tYes) rfl nd (pi_enumT (by rfl) menum (pa_cons (pv 0) pa_nil)) (blkOk_by (N := ["turns", "at", "turn", "other"]) (sc := defScope sTies) (by decide +kernel)) (by decide)
          (fun _ _ _ _ _ => pg_tup (by rfl) (pgs_cons (pg_name (i := 1) nd rfl (Or.inl rfl)) (pgs_cons (pg_name (i := 2) nd rfl (Or.inl rfl)) pgs_nil))) (fun _ _ _ _ _ => pts_nil)
          (fun _ _ _ _ _ => pi_list (pe_callB cr_sortedU (by rfl) msort (by decide +kernel) (pa_cons (pv 2) pa_nil))) (fun _ _ _ _ _ => pg_name (i := 3) nd rfl (Or.inl rfl))
          (fun _ _ _ _ _ => pts_one (pt_cmpR op_gt (pv 3) (pe_op op_add (pv 1) pe_int) (nomark _)))
          (fun _ _ _ _ _ => pe_tup (pa_cons (pe_op op_add (pv 1) pe_int) (pa_cons (pv 3) pa_nil)))) pa_nil))), ?_⟩
    obtain ⟨as, hl, ha, hrow⟩ := hL
    have hmap : (as.map V.ref).length = ts.length := by rw [List.length_map, ha]
    have item : ∀ i, i < ts.length → ∃ a ns, as[i]? = some a ∧ ts[i]? = some ns ∧ B a = some (.tup (ns.map V.int)) := fun i hi => by
      obtain ⟨a, ns, h1, h2⟩ := both_at ha (show i < as.length by omega)
      exact ⟨a, ns, h1, h2, hrow i a ns h1 h2⟩
    have p2 := hT.most
    refine s_retB (R := fun u H' => ∃ t xs, u = .ref t ∧ H' t = some (.tup xs) ∧ Row2 Tie (tiesOf ts) xs H') hB ?_ fun v H1 e1 hv => q v H1 e1 fun H3 e3 s3 => ?_
    rotate_left
    · obtain ⟨t, xs, rfl, h1, h2⟩ := hv H3 e3 s3
      exact ⟨t, rfl, xs, h1, h2⟩
    · refine en_tupNL ?_
      unfold tiesOf
      rw [← hmap]
      refine en_lc2 (Y1 := fun i => YAt ((srt (ts.getD i [])).map V.int)) (s1 := fun i j σ => σ.set 3 (some (((srt (ts.getD i [])).map V.int).getD j .non))) (ei_enumT (Evl.ea_cons (Evl.ev_var rfl) Evl.ea_nil) (Evl.st_of hl)) aims_enum (fun _ => rfl) (fun i hi => ?_) (fun i => ?_) (fun i j => rfl) _ _ _ (fun i j hi hj => ?_) (fun i j hi hj _ => ?_) ?_
      · obtain ⟨a, ns, h1, h2, h3⟩ := item i (by omega)
        have ed : ts.getD i [] = ns := by rw [List.getD_eq_getElem?_getD, h2]; rfl
        rw [ed]
        have e0 : ((srt ns).map V.int).length = (srt ns).length := List.length_map ..
        rw [← e0]
        exact ei_listN (el_sorted (Evl.ev_is (Evl.ev_var rfl) (refs_getD h1)) (.inr (Evl.st_of h3)))
      · have e0 : ((srt (ts.getD i [])).map V.int).length = (srt (ts.getD i [])).length := List.length_map ..
        have := aims_at (xs := (srt (ts.getD i [])).map V.int) (j := 3)
        rw [e0] at this
        exact this
      · exact Evl.et_test (Evl.ev_op (x := .int ((srt (ts.getD i [])).getD j 0)) (Evl.ev_is (Evl.ev_var rfl) (ints_getD hj)) (Evl.ev_op (Evl.ev_var rfl) Evl.ev_c Evl.rv_I0) Evl.rv_I0)
      · refine fun H5 e5 Q q => en_u (xs := [.int ((i : Int) + 1), .int ((srt (ts.getD i [])).getD j 0)]) (Evl.eu_tup (Evl.ea_cons (Evl.ev_op (Evl.ev_var rfl) Evl.ev_c Evl.rv_I0) (Evl.ea_cons (Evl.ev_is (Evl.ev_var rfl) (ints_getD hj)) Evl.ea_nil)) (by show 2 ≤ 100000; omega)) H5 e5 Q fun v H6 e6 hv => q v H6 e6 fun H7 e7 s7 => hv H7 e7 s7
      · rw [hmap]
        have := hT.rows (f := fun i j => decide ((i : Int) + 1 < (srt (ts.getD i [])).getD j 0)) (b := fun i j => (((i : Int) + 1, (srt (ts.getD i [])).getD j 0) : Int × Int))
        have e0 : (fun i => (ts.getD i []).length) = (fun i => (srt (ts.getD i [])).length) := funext fun i => (srt_len _).symm
        rw [e0] at this
        exact this
end
end P04
end S_Qg
section S_Qh
namespace P04
open PySem PySem.Spec PyProof.Rows L2 Tl Hk
abbrev sWebI : Stmt := inClass sWeb 0
abbrev sWebE : Stmt := inClass sWeb 1
abbrev rTup (K : PySem.W.Frag) : List V → Hp → VK → Prop := fun xs H Q => ∃ p ys, xs = [V.ref p] ∧ ((SqL K H p ys ∧ ∀ l, H l = none → Q (V.ref l) (upd H l (HO.tup ys))) ∨ (SqT K H p ys ∧ Q (V.ref p) H))
/-- the attributes, in the order of their stores -/
def wf (t : Addr) (n : Nat) (ti : Addr) : List (Str × V) := putF "ties" (.ref ti) (putF "many" (.int n) (putF "turns" (.ref t) []))
theorem kTM : ¬ (("turns" : Str) = "many") := by decide +kernel
theorem kTT : ¬ (("turns" : Str) = "ties") := by decide +kernel
theorem kMT : ¬ (("many" : Str) = "ties") := by decide +kernel
theorem wf_t (t : Addr) (n : Nat) (ti : Addr) : (wf t n ti).lookup ("turns" : Str) = some (.ref t) := by
  unfold wf
  rw [lookup_putF, if_neg kTT, lookup_putF, if_neg kTM, lookup_putF, if_pos rfl]
theorem wf_m (t : Addr) (n : Nat) (ti : Addr) : (wf t n ti).lookup ("many" : Str) = some (.int n) := by
  unfold wf
  rw [lookup_putF, if_neg kMT, lookup_putF, if_pos rfl]
theorem wf_i (t : Addr) (n : Nat) (ti : Addr) : (wf t n ti).lookup ("ties" : Str) = some (.ref ti) := by
  unfold wf
  rw [lookup_putF, if_pos rfl]
/-- a Web stands at x with these turns -/
def WebAt (C : Addr) (H : Hp) (x : Addr) (ts : List (List Int)) : Prop := ∃ dx t ti, H x = some (.ins C dx (wf t ts.length ti)) ∧ TT H t ts ∧ TiesAt H ti ts
theorem WebAt.ex {C : Addr} {A B : Hp} {x : Addr} {ts : List (List Int)} (h : WebAt C A x ts) (e : Evl.Ex A B) : WebAt C B x ts := by
  obtain ⟨dx, t, ti, h1, h2, h3⟩ := h
  exact ⟨dx, t, ti, e _ _ h1, h2.ex e, h3.ex e⟩
/-- the heap without x -/
def less (H : Hp) (x : Addr) : Hp := fun a => if a = x then none else H a
theorem less_ex (H : Hp) (x : Addr) : Evl.Ex (less H x) H := fun a o h => by
  unfold less at h
  by_cases e : a = x
  · rw [if_pos e] at h; cases h
  · rw [if_neg e] at h; exact h
theorem less_at {H : Hp} {x a : Addr} {o : HO} (h : less H x a = some o) : a ≠ x := fun e => by
  unfold less at h
  rw [if_pos e] at h
  cases h
theorem less_none (H : Hp) (x : Addr) : less H x x = none := if_pos rfl
theorem less_of {H : Hp} {x a : Addr} {o : HO} (h : H a = some o) (hn : a ≠ x) : less H x a = some o := by
  unfold less
  rw [if_neg hn]
  exact h
/-- tuple([tuple(turn) for turn in turns]) -/
theorem en_tuples {K : PySem.W.Frag} {σ : L2.St} {B : Hp} {i j : Nat} {l : Addr} {ts : List (List Int)} (hs2 : σ[i]? = some (some (.ref l))) (hw : ∀ x, wipe ((wipe σ [j]).set j (some x)) [j] = wipe σ [j]) (hj : ∀ x, ((wipe σ [j]).set j (some x))[j]? = some (some x))
    (hL : LL B l ts) (hz : ts.length ≤ 40000) : EvN (tCB (rTup K) (tCons (tLc (iList K (tVar i)) (gName j) tYes (tCB (rTup K) (tCons (tVar j) tNil)) [j]) tNil)) σ B (fun u H' => ∃ t, u = .ref t ∧ TT H' t ts) := by
  obtain ⟨as, hl, ha, hrow⟩ := hL
  have hmap : (as.map V.ref).length = ts.length := by rw [List.length_map, ha]
  have h1 : EvN (tCB (rTup K) (tCons (tLc (iList K (tVar i)) (gName j) tYes (tCB (rTup K) (tCons (tVar j) tNil)) [j]) tNil)) σ B (fun u H' => ∃ t xs, u = .ref t ∧ H' t = some (.tup xs) ∧ Holds (fun i v H' => ∃ ns, ts[i]? = some ns ∧ ∃ a, v = .ref a ∧ H' a = some (.tup (ns.map V.int))) (as.map V.ref).length xs H') := by
    refine en_tupNL (en_lc (ei_list (Evl.ev_var hs2) (Evl.sq_of hl)) aims_at (fun _ => hw _) (by omega) _ fun k hk => ?_)
    obtain ⟨a, ns, h1, h2⟩ := both_at ha (show k < as.length by omega)
    exact fun H5 e5 Q q => en_tup (Evl.ev_is (Evl.ev_var (hj _)) (refs_getD h1)) (Evl.sq_of (hrow k a ns h1 h2)) H5 e5 Q fun v H6 e6 hv => q v H6 e6 fun H7 e7 s7 => ⟨ns, h2, hv H7 e7 s7⟩
  exact fun H5 e5 Q q => h1 H5 e5 Q fun v H6 e6 hv => q v H6 e6 fun H7 e7 s7 => by
    obtain ⟨t, xs, rfl, k1, k2, k3⟩ := hv H7 e7 s7
    have hex : ∃ bs : List Addr, xs = bs.map V.ref := by
      have : ∀ v ∈ xs, ∃ a, v = V.ref a := fun v hv => by
        obtain ⟨i, hi, rfl⟩ := List.mem_iff_getElem.mp hv
        obtain ⟨_, _, a, h, _⟩ := k3 i _ (List.getElem?_eq_getElem hi)
        exact ⟨a, h⟩
      clear k1 k2 k3 hv
      induction xs with
      | nil => exact ⟨[], rfl⟩
      | cons v r ih =>
        obtain ⟨a, rfl⟩ := this v List.mem_cons_self
        obtain ⟨bs, rfl⟩ := ih fun u hu => this u (List.mem_cons_of_mem _ hu)
        exact ⟨a :: bs, rfl⟩
    obtain ⟨bs, rfl⟩ := hex
    refine ⟨t, rfl, bs, k1, by rw [List.length_map] at k2; omega, fun i a ns h1 h2 => ?_⟩
    obtain ⟨ns2, h3, b, h4, h5⟩ := k3 i (.ref a) (by rw [List.getElem?_map, h1]; rfl)
    rw [h2] at h3
    cases h3
    cases h4
    exact h5
structure TWeb (K : PySem.W.Frag) (mg : Str → Option Value) (C : Addr) : Prop where
  cl : Cls K C
  nT : NoAttr K C "turns"
  nM : NoAttr K C "many"
  nI : NoAttr K C "ties"
  mgC : mg "Web" = some (.ref C)
theorem scWebI : FnScope ["self", "turns", "turn"] ["self", "turns"] (defScope sWebI) := ⟨rfl, rfl, rfl, by decide +kernel, rfl, by decide +kernel, by decide +kernel⟩
def spWebI (C : Addr) : Sp := fun vs H Q _ => ∃ (x dx l : Addr) (ts : List (List Int)) (B : Hp), vs = [.ref x, .ref l] ∧ H x = some (.ins C dx []) ∧ Evl.Ex B H ∧ B x = none ∧ LL B l ts ∧ OkT ts ∧
  ∀ H', Evl.Ex (less H x) H' → (∀ H3, Evl.Ex B H3 → Since H H' H3 → H3 x = H' x → WebAt C H3 x ts) → Q .non H'
/-- what stands at B, and what came between A and H -/
def plus (B A H : Hp) : Hp := fun a => if (B a).isSome = true ∨ (A a).isNone = true then H a else none
theorem plus_le {B A H : Hp} : Evl.Ex (plus B A H) H := fun a o h => by
  unfold plus at h
  split at h
  · exact h
  · cases h
theorem plus_base {B A H : Hp} (h : Evl.Ex B H) : Evl.Ex B (plus B A H) := fun a o hb => by
  unfold plus
  rw [if_pos (.inl (by rw [hb]; rfl))]
  exact h _ _ hb
theorem plus_new {B A H : Hp} : Since A H (plus B A H) := fun a o hn h => by
  unfold plus
  rw [if_pos (.inr (by rw [hn]; rfl))]
  exact h
theorem plus_none {B A H : Hp} {a : Addr} (h1 : B a = none) (h2 : (A a).isSome = true) : plus B A H a = none := by
  unfold plus
  rw [if_neg]
  rintro (h | h)
  · rw [h1] at h; cases h
  · cases hq : A a with
    | none => rw [hq] at h2; cases h2
    | some o => rw [hq] at h; cases h
/-- it stands in each heap that has both -/
theorem plus_in {B A H H3 : Hp} (hB : Evl.Ex B H) (h1 : Evl.Ex B H3) (h2 : Since A H H3) : Evl.Ex (plus B A H) H3 := fun a o h => by
  unfold plus at h
  split at h
  · rename_i c
    rcases c with c | c
    · cases hq : B a with
      | none => rw [hq] at c; cases c
      | some o' =>
        have := hB _ _ hq
        rw [h] at this
        cases this
        exact h1 _ _ hq
    · refine h2 _ _ ?_ h
      cases hq : A a with
      | none => rfl
      | some o' => rw [hq] at c; cases c
  · cases h
theorem ex_less {A B : Hp} {x : Addr} {o : HO} (h : Evl.Ex A B) (hx : A x = none) : Evl.Ex A (upd B x o) := h.mut hx
section
variable {P : Program} {w : World} {K : PySem.W.Frag} {mg : Str → Option Value} {base : Heap}
set_option maxHeartbeats 2000000 in
theorem ok_webI {C f fA fT : Addr} {fd fdA fdT : FuncData} {k : Nat} (F : Fun K "__init__" "Web.__init__" sWebI f fd) (T : TWeb K mg C)
    (FA : Fun K "_are_turns" "_are_turns" sAreTurns fA fdA) (GA : FnOk P w K mg base CX0 k fA fdA ["turns"] (spAre K)) (bA : Binds K fdA ["turns"] []) (gA : mg "_are_turns" = some (.ref fA))
    (FT : Fun K "_ties_of" "_ties_of" sTies fT fdT) (GT : FnOk P w K mg base CX0 k fT fdT ["turns"] spTies) (bT : Binds K fdT ["turns"] []) (gT : mg "_ties_of" = some (.ref fT))
    (mtup : mg "tuple" = none) (mlen : mg "len" = none) :
    FnOk P w K mg base CX0 (k + 1) f fd ["self", "turns"] (spWebI C) := by
  refine F.ok scWebI (fun vs H Q E h => ?_) (fun cdv A outer s H vs Q E hr h => ?_)
  · obtain ⟨x, dx, l, ts, B, rfl, _⟩ := h
    rfl
  · obtain ⟨x, dx, l, ts, B, rfl, hx, b0, n0, hL, hT, q⟩ := h
    have nd := scWebI.nd
    refine ⟨_, pss_cons (ps_if (pt_not (pt_val (pe_call GA hr (by rfl) gA FA.kp bA .nil pass0 (pa_cons (pv 1) pa_nil)))) (pss_one (ps_never)) pss_nil)
      (pss_cons (ps_fld (pv 0) (pe_callTy call_tuple_of (by rfl) mtup (by decide +kernel) (pa_cons
          (pe_lc (own := [("turn", 2)]) (g := gName 2) (tt := tYes) (te := tCB (rTup K) (tCons (tVar 2) tNil)) rfl nd (pi_list (pv 1)) (blkOk_by (N := ["self", "turns", "turn"]) (sc := defScope sWebI) (by decide +kernel)) (fun _ _ _ _ _ => pg_name (i := 2) nd rfl (Or.inl rfl)) (fun _ _ _ _ _ => pts_nil)
            (fun _ _ _ _ _ => pe_callTy call_tuple_of (by rfl) mtup (by decide +kernel) (pa_cons (pv 2) pa_nil))) pa_nil)) rfl)
      (pss_cons (ps_fld (pv 0) (pe_callB call_len_seq (by rfl) mlen PySem.boot_len (pa_cons (pe_fld (pv 0) rfl) pa_nil)) rfl)
      (pss_one (ps_fld (pv 0) (pe_call GT hr (by rfl) gT FT.kp bT .nil pass0 (pa_cons (pe_fld (pv 0) rfl) pa_nil)) rfl)))), ?_⟩
    refine Evl.q_when (b := false) (Evl.et_is (Evl.et_not (Evl.et_B (Evl.ev_call (Evl.ea_cons (Evl.ev_var rfl) Evl.ea_nil) (spv_are (hL.ex b0) hT)))) rfl) (fun z => by cases z) fun _ H1 e1 => ?_
    obtain ⟨as, hl, ha, hrow⟩ := hL
    have hmap : (as.map V.ref).length = ts.length := by rw [List.length_map, ha]
    have p2 := hT.most
    have item : ∀ i, i < ts.length → ∃ a ns, as[i]? = some a ∧ ts[i]? = some ns ∧ B a = some (.lst (ns.map V.int)) := fun i hi => by
      obtain ⟨a, ns, h1, h2⟩ := both_at ha (show i < as.length by omega)
      exact ⟨a, ns, h1, h2, hrow i a ns h1 h2⟩
    -- self.turns
    refine q_fldN (b0.trans e1) (en_tuples (K := K) (i := 1) (j := 2) rfl (fun _ => rfl) (fun _ => rfl) ⟨as, hl, ha, hrow⟩ (by omega)) fun u H2 e2 hu => ?_
    obtain ⟨t, rfl, tt2⟩ := hu H2 ((b0.trans e1).trans e2) fun _ _ _ h => h
    have hx2 := e2 _ _ (e1 _ _ hx)
    refine ⟨_, rfl, x, C, dx, [], rfl, hx2, T.cl, T.nT, (by show 0 < 1000; decide), ?_⟩
    -- self.many
    have xt : x ≠ t := fun z => by
      obtain ⟨as2, h2, _⟩ := tt2
      rw [← z, hx2] at h2
      cases h2
    obtain ⟨as2, ht2, hl2, hr2⟩ := id tt2
    refine ⟨_, rfl, x, C, dx, _, .ref t, rfl, upd_same, T.cl, T.nT, (by rw [lookup_putF, if_pos rfl]), t, as2.map V.ref, rfl, .inr (Evl.st_of (by rw [upd_ne xt.symm]; exact ht2)), _, rfl, x, C, dx, _, rfl, upd_same, T.cl, T.nM, (by show 1 < 1000; decide), ?_⟩
    have hml : ((as2.map V.ref).length : Int) = (ts.length : Int) := by rw [List.length_map, hl2]
    rw [hml]
    -- self.ties
    have n2 : plus B H1 H2 x = none := plus_none n0 (by rw [e1 _ _ hx]; rfl)
    have b3 : Evl.Ex (plus B H1 H2) (upd (upd H2 x (.ins C dx (putF "turns" (.ref t) []))) x (.ins C dx (putF "many" (.int ts.length) (putF "turns" (.ref t) [])))) := (plus_le.mut n2).mut n2
    have tt2l : TT (plus B H1 H2) t ts := by
      obtain ⟨t', et, h⟩ := hu (plus B H1 H2) (plus_base ((b0.trans e1).trans e2)) plus_new
      cases et
      exact h
    refine ⟨_, rfl, x, C, dx, _, .ref t, rfl, upd_same, T.cl, T.nT, (by rw [lookup_putF, if_neg kTM, lookup_putF, if_pos rfl]), ?_⟩
    refine ⟨t, ts, plus B H1 H2, rfl, b3, tt2l, hT, fun v H4 e4 hv => ?_⟩
    obtain ⟨ti, rfl, ti4⟩ := hv H4 (b3.trans e4) fun _ _ _ h => h
    have hx4 := e4 _ _ upd_same
    refine ⟨_, rfl, x, C, dx, _, rfl, hx4, T.cl, T.nI, (by show 2 < 1000; decide), ?_⟩
    have lx := less_none H x
    have exA : Evl.Ex (less H x) H4 := (((((less_ex H x).trans e1).trans e2).mut lx).mut lx).trans e4
    refine q _ (exA.mut lx) fun H3 h3 s3 hx3 => ?_
    have at3 : ∀ a o, a ≠ x → H a = none → H4 a = some o → H3 a = some o := fun a o hne hn h4 => s3 a o hn (by rw [upd_ne hne]; exact h4)
    have fromH1 : ∀ a, H1 a = none → H a = none := fun a h => Evl.fresh_back e1 h
    have up24 : ∀ a o, a ≠ x → H2 a = some o → H4 a = some o := fun a o hne h => e4 _ _ (by rw [upd_ne hne, upd_ne hne]; exact h)
    refine ⟨dx, t, ti, by rw [hx3, upd_same] <;> rfl, ?_, ?_⟩
    · obtain ⟨t', et, h⟩ := hu H3 h3 fun a o hn h2 => at3 a o (fun z => by rw [z, e1 _ _ hx] at hn; cases hn) (fromH1 a hn) (up24 a o (fun z => by rw [z, e1 _ _ hx] at hn; cases hn) h2)
      cases et
      exact h
    · have hp1 : Evl.Ex (plus B H1 H2) H3 := plus_in ((b0.trans e1).trans e2) h3 fun a o hn h2 => at3 a o (fun z => by rw [z, e1 _ _ hx] at hn; cases hn) (fromH1 a hn) (up24 a o (fun z => by rw [z, e1 _ _ hx] at hn; cases hn) h2)
      obtain ⟨t', et, h⟩ := hv H3 hp1 fun a o hn h4 => by
        have hne : a ≠ x := fun z => by rw [z, upd_same] at hn; cases hn
        rw [upd_ne hne, upd_ne hne] at hn
        exact at3 a o hne (fromH1 a (Evl.fresh_back e2 hn)) h4
      cases et
      exact h
end
section
open Evl
variable {K : PySem.W.Frag} {σ : L2.St} {B : Hp}
/-- Web(turns) -/
theorem en_make {C : Addr} {ta : TE} {E : XK} {ts : List (List Int)} (h : EvN ta σ B (fun u H' => ∃ l, u = .ref l ∧ LL H' l ts)) (hT : OkT ts) : EvN (tMake C (spWebI C) [] E (tCons ta tNil)) σ B (fun u H' => ∃ x, u = .ref x ∧ WebAt C H' x ts) := fun H1 e Q q =>
  h H1 e _ fun v H2 e2 hv => by
    obtain ⟨l, rfl, hl⟩ := hv (plus B H1 H2) (plus_base (e.trans e2)) plus_new
    intro x dx nx ndx nex
    have px : plus B H1 H2 x = none := fresh_back plus_le nx
    have pd : plus B H1 H2 dx = none := fresh_back plus_le ndx
    have lx := less_none (upd (upd H2 dx (.own x)) x (.ins C dx [])) x
    refine ⟨x, dx, l, ts, plus B H1 H2, rfl, upd_same, (plus_le.mut pd).mut px, px, hl, hT, fun H' ex' hw => ⟨rfl, ?_⟩⟩
    have e2' : Ex H2 H' := fun a o h => ex' a o (less_of (by rw [upd_ne (ne_of_none h nx), upd_ne (ne_of_none h ndx)]; exact h) (ne_of_none h nx))
    have h1x : H1 x = none := fresh_back e2 nx
    obtain ⟨_, _, _, hx', _⟩ := hw H' ((plus_le).trans e2') (fun _ _ _ h => h) rfl
    refine q _ H' (e2.trans e2') fun H3 h3 s3 => ⟨x, rfl, hw H3 (plus_in (e.trans e2) h3 fun a o hn h2 => s3 a o hn (e2' _ _ h2)) (fun a o hn h2 => ?_) ?_⟩
    · refine s3 a o (fresh_back e2 ?_) h2
      by_cases ax : a = x
      · rw [ax]; exact nx
      · by_cases ad : a = dx
        · rw [ad]; exact ndx
        · rw [upd_ne ax, upd_ne ad] at hn
          exact hn
    · rw [hx', s3 _ _ h1x hx']
end
end P04
end S_Qh
section S_Qi
namespace P04
open PySem PySem.Spec PyProof.Rows L2 Tl Hk
/-! ### data of tuples of tuples -/
def dT (ts : List (List Int)) : PyData := .tuple (ts.map fun ns => .tuple (ns.map PyData.int))
theorem dT_lay : ∀ ts : List (List Int), PyData.canLayAll0 (ts.map fun ns => .tuple (ns.map PyData.int)) = true
  | [] => rfl
  | ns :: r => by
    show (PyData.canLay0 (.tuple (ns.map PyData.int)) && PyData.canLayAll0 (r.map fun ns => .tuple (ns.map PyData.int))) = true
    rw [dT_lay r, Bool.and_true]
    exact PySem.W.ke_canLayAll0 ns
theorem dT_deep : ∀ ts : List (List Int), PyData.depthAll (ts.map fun ns => .tuple (ns.map PyData.int)) ≤ 1
  | [] => Nat.zero_le _
  | ns :: r => by
    show max (PyData.depth (.tuple (ns.map PyData.int))) (PyData.depthAll (r.map fun ns => .tuple (ns.map PyData.int))) ≤ 1
    have h1 : PyData.depth (.tuple (ns.map PyData.int)) = 1 := by
      show PyData.depthAll (ns.map PyData.int) + 1 = 1
      rw [PySem.W.ke_depthAll]
    have := dT_deep r
    omega
theorem dT_shaped (ts : List (List Int)) : SeqAt.shaped (dT ts) = true := by
  unfold SeqAt.shaped
  rw [Bool.and_eq_true_iff]
  refine ⟨dT_lay ts, decide_eq_true ?_⟩
  show PyData.depthAll (ts.map fun ns => .tuple (ns.map PyData.int)) + 1 ≤ 64
  have := dT_deep ts
  omega
theorem dT_same (ts : List (List Int)) : PyData.eqv (dT ts) (dT ts) = true := SeqAt.eqv_refl _ (SeqAt.canLay_of_shaped (dT_shaped ts))
theorem dpAll_of {K : PySem.W.Frag} {H : Hp} : ∀ {vs : List V} {ds : List PyData}, vs.length = ds.length → (∀ (i : Nat) (v : V) (d : PyData), vs[i]? = some v → ds[i]? = some d → Dp K H v d) → DpAll K H vs ds
  | [], [], _, _ => .nil
  | v :: vs, d :: ds, hl, h => .cons (h 0 v d rfl rfl) (dpAll_of (by simpa using hl) fun i v d h1 h2 => h (i + 1) v d (by simpa using h1) (by simpa using h2))
theorem TT.dp {K : PySem.W.Frag} {H : Hp} {t : Addr} {ts : List (List Int)} (h : TT H t ts) : Dp K H (.ref t) (dT ts) := by
  obtain ⟨as, h1, h2, h3⟩ := h
  refine .tup (Evl.st_of h1) (dpAll_of (by simp [h2]) fun i v d hv hd => ?_)
  rw [List.getElem?_map] at hv hd
  cases ha : as[i]? with
  | none => rw [ha] at hv; cases hv
  | some a =>
    cases hn : ts[i]? with
    | none => rw [hn] at hd; cases hd
    | some ns =>
      rw [ha] at hv
      rw [hn] at hd
      cases hv
      cases hd
      exact .tup (Evl.st_of (h3 i a ns ha hn)) (dp_ints (c := a) ns)
/-- what isinstance asks of the class -/
structure TIns (K : PySem.W.Frag) (C : Addr) : Prop where
  ha : PySem.W.findIn K (.ref C) "__class__" = some (some (.builtin "object.__class__"))
  hn : PySem.W.specialIn K (.builtin "object.__class__") "__get__" = some (some (.builtin "getset_descriptor.__get__"))
  ht : PySem.W.takesIn K (.builtin "object.__class__") = some true
  hm : PySem.W.mroIn K C (.type "object") = some true
  kit : PySem.W.kitOne K (.ref C) (.ref C) = some true
theorem rc_web {K : PySem.W.Frag} {mg : Str → Option Value} {C : Addr} {H : Hp} {x : Addr} {ts : List (List Int)} (T : TWeb K mg C) (I : TIns K C) (h : WebAt C H x ts) : Evl.RC (rIsi K) [.ref x, .ref C] H (.bl true) := fun H1 e _ q => by
  obtain ⟨dx, t, ti, h1, _⟩ := h.ex e
  exact ⟨.ref x, .ref C, .ref C, .ref C, true, rfl, .own C, .base (.ins h1 T.cl I.ha I.hn I.ht I.hm), I.kit, q H1 (Evl.Ex.refl H1)⟩
section
open Evl
variable {K : PySem.W.Frag} {σ : L2.St} {H : Hp}
theorem ev_fld {ta : TE} {C x dx : Addr} {fs : List (Str × V)} {f : Str} {v : V} (h : Ev ta σ H (.ref x)) (hx : H x = some (.ins C dx fs)) (cl : Cls K C) (na : NoAttr K C f) (hl : fs.lookup f = some v) : Ev (tFld K ta f) σ H v := fun H1 e Q q =>
  h H1 e _ fun H2 e2 => ⟨x, C, dx, fs, v, rfl, e2 _ _ (e _ _ hx), cl, na, hl, q H2 e2⟩
end
end P04
end S_Qi
section S_Wh
namespace Hk
open PySem PySem.Spec PyProof.Rows L2 LamX Tl
/-- a def called where no repr is under way, its code object known -/
theorem fn_gC {P : Program} {w : World} {K : PySem.W.Frag} {mg : Str → Option Value} {base : Heap} {x qual : Str} {st : Stmt} {f c : Addr} {fd : FuncData} {N ps : List Str} {k : Nat} {sp : Sp} (F : Fun K x qual st f fd) (hcode : fd.code = .ref c) (S : FnScope N ps (defScope st))
    (len : ∀ {vs H Q E}, sp vs H Q E → vs.length = ps.length)
    (hbody : ∀ (A : Around) (outer : List Env) (s : Shared) (H : Hp) (vs : List V) (Q : VK) (E : XK), A.guards = some [] → Room k (A.deeper (envOfC qual (defScope st) s.heap.objs.size f (.ref c))) → sp vs H Q E →
      ∃ t, PSs (cxOf CX0 P w K mg base N qual (defScope st) f (.ref c) A outer s H E).nox (defBody st) t ∧ t { nx := fun _ H' => Q .non H', rt := Q } (start N vs) H) : FnG P w K mg base (k + 1) f fd ps sp := by
  obtain ⟨oc, od, kV, doc, pm, an, cdv, ct, osl, rfl, lk, hcd⟩ := F.ex
  obtain rfl : cdv = .ref c := hcode
  refine ⟨len, fun {A outer s H args us vs Q E} hgd hr e0 hb r hsp => ?_⟩
  have kin : K.In s.heap := e0.mod.kin.keeps fun b o e => (e0.bs b o e).1
  have nl : s.heap.NoLimit := e0.mod.nolimit.keeps fun b o e => (e0.bs b o e).1
  refine codeAny_call_function hr.depth (kin _ _ lk) rfl S.co S.gen rfl (PySem.W.codeRec_of kin hcd) (hb _ _ _ _ (wpAny_newFunctionEnv_cells S.kind ?_ fun env he s1 x => ?_))
  · intro y hy
    have hp : y.1 ∈ ps := (List.of_mem_zip (a := y.1) (b := y.2) hy).1
    exact (S.par y.1 hp).imp id fun q => ⟨q, PySem.W.cellsFrom_some _ _ _ (.inl q)⟩
  · cases he
    obtain ⟨t, ht, hq⟩ := hbody A outer s H vs Q E hgd (hr.deeper _) hsp
    have I := inv_start (CX := CX0) (P := P) (w := w) (base := base) (E := E) (qual := qual) (f := f) (cd := .ref c) S hr.hd e0 (len hsp) r x
    refine ⟨nl.keeps x.toInCall.keep, codeAny_func (wpAny_mono (ht.nox.run [] s1 (start N vs) H _ I hq) (fun fl s' hs => ?_) fun _ _ hs => hs)⟩
    cases fl with
    | ret u =>
      obtain ⟨v, σ', H', J, rv, q⟩ := hs
      exact ⟨v, H', J.os, J.bare, J.base, J.hok, rv, q⟩
    | next =>
      obtain ⟨σ', H', J, q⟩ := hs
      exact ⟨.non, H', J.os, J.bare, J.base, J.hok, rfl, q⟩
    | brk => exact hs.elim fun _ h => h.elim fun _ h => h.2.elim
    | cont => exact hs.elim fun _ h => h.elim fun _ h => h.2.elim
theorem passF {X : Cx} {P : Program} {w : World} : Passes (L2.CX P w) X E0 := fun _ _ _ _ _ _ _ c => by
  obtain ⟨_, _, _, _, _, _, _, _, _, _, _, _, h⟩ := c
  exact h.elim
section
open Evl
variable {K : PySem.W.Frag} {σ : L2.St} {H H' : Hp} {ta tb te : TE}
theorem el_listT {p : Addr} {xs : List V} (ha : Ev ta σ H (.ref p)) (h : SqT K H p xs) : EvL (tCB (rListS K) (tCons ta tNil)) σ H xs := fun H1 e Q q =>
  ha H1 e _ fun H2 e2 => ⟨p, xs, rfl, .inr (ex_t (e.trans e2) h), fun l hl => q l _ (fresh_back e2 hl) (e2.trans (Ex.new hl)) upd_same⟩
theorem el_listU {xs : List V} (ha : EvU ta σ H xs) : EvL (tCB (rListS K) (tCons ta tNil)) σ H xs := fun H1 e Q q =>
  ha H1 e _ fun p H2 hp e2 h2 => ⟨p, xs, rfl, .inr (st_of h2), fun l hl => q l _ (fresh_back e2 hl) (e2.trans (Ex.new hl)) upd_same⟩
theorem ev_lenU {xs : List V} (ha : EvU ta σ H xs) : Ev (tCB (rLenS K) (tCons ta tNil)) σ H (.int (xs.length : Int)) := fun H1 e Q q =>
  ha H1 e _ fun p H2 _ e2 h2 => ⟨p, xs, rfl, .inr (st_of h2), q H2 e2⟩
/-- a tuple with these items, new or not -/
def EvTp (K : PySem.W.Frag) (te : TE) (σ : L2.St) (H : Hp) (xs : List V) : Prop := ∀ H1, Ex H H1 → ∀ Q : VK, (∀ p H2, Ex H1 H2 → SqT K H2 p xs → Q (.ref p) H2) → te σ H1 Q
theorem tp_u {xs : List V} (h : EvU te σ H xs) : EvTp K te σ H xs := fun H1 e Q q => h H1 e Q fun p H2 _ e2 h2 => q p H2 e2 (st_of h2)
theorem tp_slTo {th : TO} {a : Addr} {xs : List V} {n : Nat} (h : Ev te σ H (.ref a)) (h2 : EvO th σ H (some (n : Int))) (hs : SqT K H a xs) (hn : n ≤ xs.length) : EvTp K (tSl (rSlA K) te tNoPart th) σ H (xs.take n) := fun H1 e Q q =>
  h H1 e _ fun H2 e2 => h2 H2 (e.trans e2) _ fun H4 e4 => by
    have hh := ex_t ((e.trans e2).trans e4) hs
    have ec : cutV xs none (some (n : Int)) = xs.take n := by
      unfold cutV
      rw [HT.sIx_none, HT.sIx_nat, List.drop_zero, Nat.sub_zero, Nat.min_eq_left hn]
    refine ⟨a, xs, rfl, hh, fun hw => ?_, fun _ p hp => ?_⟩
    · have e1 := hw.2
      rw [HT.sIx_nat, Nat.min_eq_left hn] at e1
      refine q a H4 (e2.trans e4) ?_
      rw [e1, List.take_length]
      exact hh
    · rw [ec]
      exact q p _ ((e2.trans e4).trans (Ex.new hp)) (st_of upd_same)
/-- ints, as data -/
def dz (ns : List Int) : List PyData := ns.map PyData.int
theorem dp_z : ∀ (ns : List Int), DpAll K H (ns.map V.int) (dz ns)
  | [] => .nil
  | i :: r => .cons (.int i) (dp_z r)
theorem z_shT (ns : List Int) : SeqAt.shaped (.tuple (dz ns)) = true := by
  unfold dz
  simp [SeqAt.shaped, PyData.canLay0, PyData.depth, PySem.W.ke_canLayAll0, PySem.W.ke_depthAll]
theorem z_shL (ns : List Int) : SeqAt.shaped (.list (dz ns)) = true := PySem.W.ke_shaped_ints ns
theorem et_neTp {ns : List Int} (ha : EvTp K ta σ H (ns.map V.int)) (hb : EvTp K tb σ H (ns.map V.int)) : EvT (tTest (tOp (rNeD K) ta tb)) σ H false := fun H1 e Q q =>
  ha H1 e _ fun p H2 e2 h2 => hb H2 (e.trans e2) _ fun p3 H3 e3 h3 => by
    refine ⟨.tuple (dz ns), .tuple (dz ns), .tup (ex_t e3 h2) (dp_z ns), .tup h3 (dp_z ns), z_shT ns, z_shT ns, ?_⟩
    rw [SeqAt.eqv_refl _ (SeqAt.canLay_of_shaped (z_shT ns))]
    exact ⟨false, rfl, q H3 (e2.trans e3)⟩
theorem et_neLL {ns : List Int} (ha : EvL ta σ H (ns.map V.int)) (hb : EvL tb σ H (ns.map V.int)) : EvT (tTest (tOp (rNeD K) ta tb)) σ H false := fun H1 e Q q =>
  ha H1 e _ fun p H2 _ e2 h2 => hb H2 (e.trans e2) _ fun p3 H3 _ e3 h3 => by
    refine ⟨.list (dz ns), .list (dz ns), .lst (sq_of (e3 _ _ h2)) (dp_z ns), .lst (sq_of h3) (dp_z ns), z_shL ns, z_shL ns, ?_⟩
    rw [SeqAt.eqv_refl _ (SeqAt.canLay_of_shaped (z_shL ns))]
    exact ⟨false, rfl, q H3 (e2.trans e3)⟩
theorem piled_le : ∀ {ts : List Str} {c : Nat}, (∀ t ∈ ts, t.length ≤ c) → piled ts ≤ ts.length * (c + 2)
  | [], c, _ => Nat.zero_le _
  | t :: r, c, h => by
    have h1 := h t List.mem_cons_self
    have h2 := piled_le (ts := r) (c := c) fun u hu => h u (List.mem_cons_of_mem _ hu)
    rw [List.length_cons, Nat.succ_mul]
    show t.length + 2 + piled r ≤ _
    omega
theorem listText_le {ts : List Str} {c : Nat} (h : ∀ t ∈ ts, t.length ≤ c) : (listText ts).length ≤ ts.length * (c + 2) + 3 := by
  have hp := piled_le h
  unfold listText
  rw [strLen_append, show (("]" : String) : Str).length = 1 from rfl]
  cases ts with
  | nil =>
    show ((("[" : String) : Str)).length + 1 ≤ _
    rw [show (("[" : String) : Str).length = 1 from rfl]
    omega
  | cons t r =>
    show (textFrom (0 + 1) _ r).length + 1 ≤ _
    rw [textFrom_length_pos r (0 + 1) _ (by decide), strLen_append, strLen_append, show (("[" : String) : Str).length = 1 from rfl]
    have e2 : (((if 0 > 0 then ", " else "" : String)) : Str).length = 0 := rfl
    rw [e2]
    have e3 : piled (t :: r) = t.length + 2 + piled r := piled_cons t r
    omega
theorem shownAll_eq : ∀ ds : List PyData, PyData.shownAll ds = ds.map PyData.shown
  | [] => rfl
  | d :: r => by rw [PyData.shownAll, shownAll_eq r] <;> rfl
theorem z_len {ns : List Int} {b : Nat} (h1 : ns.length ≤ 10000) (h2 : ∀ x ∈ ns, x.natAbs ≤ 64) : (PyData.list (dz ns)).shown.length ≤ sizeLine := by
  show (listText (PyData.shownAll (dz ns))).length ≤ _
  rw [shownAll_eq]
  have := listText_le (ts := (dz ns).map PyData.shown) (c := 66) fun u hu => by
    unfold dz at hu
    rw [List.map_map] at hu
    obtain ⟨x, hx, rfl⟩ := List.mem_map.mp hu
    have b1 := len_str_of_int x
    have b2 := h2 x hx
    show (Str.ofString (toString x)).length ≤ 66
    omega
  rw [List.length_map] at this
  unfold dz at this
  rw [List.length_map] at this
  have h3 : ns.length * (66 + 2) ≤ 10000 * 68 := Nat.mul_le_mul h1 (Nat.le_refl _)
  rw [sizeLine_eq]
  unfold dz
  omega
theorem z_show : ∀ {ns : List Int}, (∀ x ∈ ns, x.natAbs ≤ 64) → PyData.showableAll (dz ns) = true
  | [], _ => rfl
  | x :: r, h => by
    show (decide (x.natAbs.log2 < 1920) && PyData.showableAll (dz r)) = true
    rw [z_show fun y hy => h y (List.mem_cons_of_mem _ hy), Bool.and_true]
    have h1 := h x List.mem_cons_self
    exact decide_eq_true (Nat.lt_of_le_of_lt (Nat.log2_le_self _) (by omega))
theorem z_nd : ∀ ns : List Int, PyData.hasDictAll (dz ns) = false
  | [] => rfl
  | x :: r => by show (false || PyData.hasDictAll (dz r)) = false; rw [z_nd r] <;> rfl
theorem z_deep (ns : List Int) : (PyData.list (dz ns)).depth ≤ 20 := by
  unfold dz
  simp [PyData.depth, PySem.W.ke_depthAll]
/-- repr of a new list of small ints -/
theorem ev_reprZ {ns : List Int} (h : EvL te σ H (ns.map V.int)) (h1 : ns.length ≤ 10000) (h2 : ∀ x ∈ ns, x.natAbs ≤ 64) : Ev (tCB (rRepr K) (tCons te tNil)) σ H (.str (PyData.list (dz ns)).shown) := fun H1 e Q q =>
  h H1 e _ fun p H2 _ e2 h2' => ⟨p, _, rfl, .lst (sq_of h2') (dp_z ns), z_show h2, z_nd ns, z_deep ns, z_len (b := 0) h1 h2, q H2 e2⟩
theorem et_neStr {z : Str} (h1 : Ev ta σ H (.str z)) (h2 : Ev tb σ H (.str z)) : EvT (tTest (tOp rNe ta tb)) σ H false :=
  et_is (et_test (ev_op h1 h2 (rv_ne rfl))) (by rw [decide_eq_true rfl] <;> rfl)
end
end Hk
end S_Wh
section S_Wl
namespace Hk
open PySem PySem.Spec PyProof.Rows L2 Tl
theorem cutAt (xs : List V) {b h : Nat} (hl : b + h ≤ xs.length) : cutV xs (some (b : Int)) (some ((b + h : Nat) : Int)) = (xs.drop b).take h := by
  unfold cutV
  rw [HT.sIx_nat, HT.sIx_nat, Nat.min_eq_left hl, Nat.min_eq_left (by omega), show b + h - b = h by omega]
section
open Evl
variable {K : PySem.W.Frag} {σ : L2.St} {H : Hp} {ta tb : TE}
def zD (ns : List Int) : List PyData := ns.map PyData.int
theorem dp_zD : ∀ (ns : List Int), DpAll K H (ns.map V.int) (zD ns)
  | [] => .nil
  | i :: r => .cons (.int i) (dp_zD r)
theorem eqv_zD (ns ms : List Int) : PyData.eqv (.list (zD ns)) (.list (zD ms)) = decide (ns = ms) := PySem.W.Datum.eqv (α := List Int) ns ms
/-- two new lists of ints, alike or not -/
theorem ev_eqLL {ns ms : List Int} (ha : EvL ta σ H (ns.map V.int)) (hb : EvL tb σ H (ms.map V.int)) : Ev (tOp (rEqD K) ta tb) σ H (.bl (decide (ns = ms))) :=
  ev_opLL ha hb fun p q H1 h1 h2 _ => fun H2 e2 Q k => by
    refine ⟨.list (zD ns), .list (zD ms), .lst (sq_of (e2 _ _ h1)) (dp_zD ns), .lst (sq_of (e2 _ _ h2)) (dp_zD ms), PySem.W.ke_shaped_ints ns, PySem.W.ke_shaped_ints ms, ?_⟩
    rw [eqv_zD]
    exact k H2 (Ex.refl H2)
end
end Hk
namespace Hk
open PySem PySem.Spec PyProof.Rows L2 Tl
section
open Evl
variable {K : PySem.W.Frag} {σ : L2.St} {H : Hp} {ta tb te : TE} {t : TT}
/-- a comprehension over anything that is walked, with a test: the turns that give, and what -/
theorem el_lcI {wi : TI} {g : TG} {vs : List Nat} {n : Nat} {Y : Nat → Hp → V → Hp → Prop} {s : Nat → L2.St → L2.St} (f : Nat → Bool) (v : Nat → V) (hw : EvI wi σ H n Y) (aim : Aims g n Y s) (hs : ∀ i, wipe (s i (wipe σ vs)) vs = wipe σ vs) (hn : n ≤ 40000)
    (ht : ∀ i H1, Ex H H1 → i < n → EvT t (s i (wipe σ vs)) H1 (f i)) (he : ∀ i H1, Ex H H1 → i < n → f i = true → Ev te (s i (wipe σ vs)) H1 (v i)) : EvL (tLc wi g t te vs) σ H (given n f v) := fun H1 e Q q =>
  hw H1 e _ fun J G H2 e2 w sG D hD => lc_it w (Cw H2 f v D) ⟨hD, Ex.new hD, upd_same⟩ (fun i H' _ p => sG H' ((e.trans e2).trans p.2.1) fun a o _ ha => p.2.1 _ _ ha)
    (fun i x A B hi p y => by
      obtain ⟨ab, k⟩ := aim i (wipe σ vs) A x B hi y
      exact k _ ⟨hs i, cw_turn ⟨p.1, p.2.1.trans ab, ab _ _ p.2.2⟩ (by omega) (ht i H2 (e.trans e2) hi) fun hf => he i H2 (e.trans e2) hi hf⟩)
    (fun H' p => q D H' (fresh_back e2 p.1) (e2.trans p.2.1) p.2.2)
theorem el_catN {xs ys : List V} (ha : EvL ta σ H xs) (hb : EvL tb σ H ys) (hz : xs.length + ys.length ≤ 100000) : EvL (tOp rCat ta tb) σ H (xs ++ ys) := fun H1 e Q q =>
  ha H1 e _ fun a H2 ha' e2 h2 => hb H2 (e.trans e2) _ fun p H3 _ e3 h3 => ⟨a, p, xs, ys, rfl, rfl, e3 _ _ h2, h3, sz_of hz, fun r hr => q r _ (fresh_back (e2.trans e3) hr) ((e2.trans e3).trans (Ex.new hr)) upd_same⟩
end
theorem yes_at {σ : L2.St} {H : Hp} {P R : Hp → Prop} (h : P H) : tYes σ H fun b H3 => if b = true then P H3 else R H3 := by
  show (if true = true then P H else R H)
  rw [if_pos rfl]
  exact h
theorem if_go {b : Bool} {P R : Prop} (h1 : b = true → P) (h2 : b = false → R) : if b = true then P else R := by
  cases b with
  | true => rw [if_pos rfl]; exact h1 rfl
  | false => rw [if_neg (by decide)]; exact h2 rfl
theorem cutTo' (xs : List V) (n : Nat) : cutV xs none (some (n : Int)) = xs.take n := by
  unfold cutV
  rw [HT.sIx_none, HT.sIx_nat, List.drop_zero, Nat.sub_zero]
  by_cases h : n ≤ xs.length
  · rw [Nat.min_eq_left h]
  · rw [Nat.min_eq_right (by omega), List.take_length, List.take_of_length_le (by omega)]
theorem cutFrom (xs : List V) (n : Nat) : cutV xs (some (n : Int)) none = xs.drop n := by
  unfold cutV
  rw [HT.sIx_nat, HT.sIx_none]
  by_cases h : n ≤ xs.length
  · rw [Nat.min_eq_left h, List.take_of_length_le (by rw [List.length_drop]; omega)]
  · rw [Nat.min_eq_right (by omega), Nat.sub_self, List.take_zero, List.drop_of_length_le (by omega)]
end Hk
namespace Hk
open PySem PySem.Spec PyProof.Rows L2 Tl
section
open Evl
variable {K : PySem.W.Frag} {σ : L2.St} {H : Hp} {ta tb te : TE} {t : TT}
theorem el_catNV {m : Addr} {xs ys : List V} (ha : EvL ta σ H xs) (hb : Ev tb σ H (.ref m)) (hm : H m = some (.lst ys)) (hz : xs.length + ys.length ≤ 100000) : EvL (tOp rCat ta tb) σ H (xs ++ ys) := fun H1 e Q q =>
  ha H1 e _ fun a H2 ha' e2 h2 => hb H2 (e.trans e2) _ fun H3 e3 => ⟨a, m, xs, ys, rfl, rfl, e3 _ _ h2, e3 _ _ (e2 _ _ (e _ _ hm)), sz_of hz, fun r hr => q r _ (fresh_back (e2.trans e3) hr) ((e2.trans e3).trans (Ex.new hr)) upd_same⟩
theorem el_rg1 {j : Int} (ha : Ev ta σ H (.int j)) (h : RgOk 0 j) : EvL (tLstRg (tRg1 ta)) σ H (rgV 0 j) := fun H1 e Q q =>
  ha H1 e _ fun H2 e2 => ⟨j, rfl, h, fun p hp => q p _ (fresh_back e2 hp) (e2.trans (Ex.new hp)) upd_same⟩
end
end Hk
namespace Hk
open PySem PySem.Spec PyProof.Rows L2 LamX Tl
theorem tupText_le {ts : List Str} {c : Nat} (h : ∀ t ∈ ts, t.length ≤ c) : (tupleText ts).length ≤ ts.length * (c + 2) + 3 := by
  unfold tupleText
  rw [strLen_append, strLen_append]
  have e1 : (("(" : String) : Str).length = 1 := rfl
  have e2 : (((if ts.length == 1 then ",)" else ")" : String)) : Str).length ≤ 2 := by split <;> decide
  have e3 : (Str.join ", " ts).length ≤ piled ts := by
    cases ts with
    | nil => exact Nat.le_refl _
    | cons t r => have := join_length_add (t :: r) (by simp); omega
  have := piled_le h
  omega
theorem z_lenT {ns : List Int} {c : Nat} (h1 : ns.length * (c + 4) ≤ 100000) (h2 : ∀ x ∈ ns, x.natAbs ≤ c) : (PyData.tuple (dz ns)).shown.length ≤ sizeLine := by
  show (tupleText (PyData.shownAll (dz ns))).length ≤ _
  rw [shownAll_eq]
  have := tupText_le (ts := (dz ns).map PyData.shown) (c := c + 2) fun u hu => by
    unfold dz at hu
    rw [List.map_map] at hu
    obtain ⟨x, hx, rfl⟩ := List.mem_map.mp hu
    have b1 := len_str_of_int x
    have b2 := h2 x hx
    show (Str.ofString (toString x)).length ≤ c + 2
    omega
  rw [List.length_map] at this
  unfold dz at this
  rw [List.length_map] at this
  have h3 : ns.length * (c + 2 + 2) ≤ 100000 := h1
  rw [sizeLine_eq]
  unfold dz
  omega
theorem z_showB {b : Nat} (hb : b < 2 ^ 1000) : ∀ {ns : List Int}, (∀ x ∈ ns, x.natAbs ≤ b) → PyData.showableAll (dz ns) = true
  | [], _ => rfl
  | x :: r, h => by
    show (decide (x.natAbs.log2 < 1920) && PyData.showableAll (dz r)) = true
    rw [z_showB hb fun y hy => h y (List.mem_cons_of_mem _ hy), Bool.and_true]
    have h1 := h x List.mem_cons_self
    refine decide_eq_true ?_
    by_cases z : x.natAbs = 0
    · rw [z]; decide
    · have := (Nat.log2_lt z (k := 1000)).mpr (by omega)
      omega
theorem z_deepT (ns : List Int) : (PyData.tuple (dz ns)).depth ≤ 20 := by
  unfold dz
  simp [PyData.depth, PySem.W.ke_depthAll]
/-- repr of data at an address, or of None -/
def rReprB (K : PySem.W.Frag) : List V → Hp → VK → Prop := fun xs H Q => rRepr K xs H Q ∨ (xs = [.non] ∧ Q (.str "None") H)
theorem call_reprB {X : Cx} (hg : X.A.guards = some []) (hu : X.A.units + 64 < cLine) : CallR X (.builtin "repr") (rReprB X.K) := by
  intro pins s σ H xs us Q I r h
  rcases h with h | ⟨rfl, q⟩
  · exact call_reprD hg hu _ _ _ _ _ _ _ I r h
  · obtain ⟨u, rfl, ru⟩ := vals1 r
    cases ru
    exact PySem.P.repr_of_none ⟨.str "None", H, I.tok _, ⟨_, rfl⟩, q⟩
end Hk
end S_Wl
section S_Wm
namespace Hk
open PySem PySem.Spec PyProof.Rows L2 Tl
/-- a set without items, as set() lays it -/
abbrev zO (w : World) : Obj := { cls := .type "set", dict := none, data := .set #[] 0 (.fresh 0 0 (!w.params.followText "set-order")) }
/-- what comes of set(l), l a list of these ints -/
def Got (w : World) (s : Shared) (ns : List Int) (r : Value) (s2 : Shared) : Prop := r = .ref s.heap.objs.size ∧ ∃ (h' : Heap) (tk c : Nat), s2 = { s with heap := h', toks := tk } ∧ SetR w h' s.heap.objs.size (fun j => decide (j ∈ ns)) c ∧ c ≤ ns.length ∧ ∀ b o, s.heap.get? b = some o → h'.get? b = some o
section
variable {P : Program} {w : World} {A : Around} {E : Value → Shared → Prop} {s : Shared}
set_option maxHeartbeats 3200000 in
theorem fill_list {l : Addr} {its : Array Value} {ns : List Int} (a0 : A.handled = none) (hl : s.heap.IsList l its) (hi : IntsAre its.toList ns) (hb : ns.length + 1 < scanBound) :
    codeAny (model P w) A (.call (.builtin "set.__init__") ⟨[.ref s.heap.objs.size, .ref l], []⟩) (wants (fun r s2 => r = .none ∧ Got w s ns (.ref s.heap.objs.size) s2) E) { s with heap := s.heap.push (zO w) } := by
  have n1 : its.size = ns.length := by
    have z := IntsAre.length hi
    rwa [Array.length_toList] at z
  have g0 : (s.heap.push (zO w)).get? s.heap.objs.size = some (zO w) := Heap.get?_push_size _ rfl
  refine codeAny_call_builtin (R := wants (fun r s2 => r = .none ∧ Got w s ns (.ref s.heap.objs.size) s2) E) F.called_set.init.plain F.entry_set_init (check_set_init_1 (s := { s with heap := s.heap.push (zO w) }) ⟨_, g0, rfl⟩ ?_)
  obtain ⟨⟨oc, od, ob, osl⟩, o1, o2, nl, o3⟩ := hl
  simp only at o2 o3
  subst o2
  subst o3
  have g1 := Heap.get?_push_of_some (zO w) o1
  have hls : (s.heap.push (zO w)).IsList l its := ⟨_, g1, rfl, nl, rfl⟩
  have k1 := F.sub_list_set
  have k2 := F.sub_list_frozenset
  have k3 : (Value.type "list" == Value.type "dict") = false := by decide
  unfold Builtin.«set.__init__» noKeywords Builtin.Frozenset.updateFrom
  generalize hPI : pyIter = PI
  wp_walk
  subst hPI
  refine wpAny_pyIter_list hls (wpAny_bind (wpAny_runValue ?_))
  have lS : l < s.heap.objs.size := Heap.lt_size o1
  have sz : (s.heap.push (zO w)).objs.size = s.heap.objs.size + 1 := Heap.size_push ..
  have a3 : A.in1.in1.handled = none := by simp [a0]
  have nI : l ≠ (s.heap.push (zO w)).objs.size := by
    rw [sz]
    exact Nat.ne_of_lt (Nat.lt_succ_of_lt lS)
  have nS : s.heap.objs.size ∉ [(s.heap.push (zO w)).objs.size, l] := fun m => by
    rw [sz] at m
    rcases List.mem_cons.mp m with z | z
    · exact Nat.ne_of_lt (Nat.lt_succ_self _) z
    · exact Nat.ne_of_gt lS (List.mem_singleton.mp z)
  have val : ∀ (i : Nat) (v : Value), its[i]? = some v → ∃ k t, ns[i]? = some k ∧ v = .int k t := fun i v hv => by
    have lt : i < ns.length := by rw [← n1]; exact (Array.getElem?_eq_some_iff.mp hv).1
    obtain ⟨t, e⟩ := PyProof.Rows.IntsAre.int_at hi i v (by rw [Array.getElem?_toList]; exact hv)
    exact ⟨ns[i], t, List.getElem?_eq_getElem lt, by rw [e, List.getD_eq_getElem?_getD, List.getElem?_eq_getElem lt] <;> rfl⟩
  refine set_update_ints ((Walks.list a3 _ l nI its).toS) s.heap.objs.size nS ns n1 hb val (its.size - 0) 0 _ (by omega) (Nat.zero_le _) ?z ?z0 ?z1
  case z => exact ⟨⟨_, Heap.get?_push_size _ rfl, rfl, rfl⟩, (hls.push _)⟩
  case z0 => exact ⟨0, Nat.le_refl 0, setR_new_at (Heap.get?_push_of_some _ g0)⟩
  case z1 =>
    intro s' c' hm hc' hS'
    obtain ⟨h', g2, d2, tk', os2⟩ := s'
    obtain rfl : g2 = s.gens := hm.gens
    obtain rfl : d2 = s.drawn := hm.drawn
    obtain rfl : os2 = s.os := hm.os
    show wpAny _ _ _ _ _ _
    refine wpAny_pure ?_
    show wpAny _ _ (ret Value.none) _ _ _
    rw [n1] at hc'
    refine wpAny_pure ⟨rfl, rfl, h', tk', c', rfl, hS', hc', fun b o e => ?_⟩
    have lb : b < s.heap.objs.size := Heap.lt_size e
    refine hm.heap b o (fun m => ?_) (Heap.get?_push_of_some _ (Heap.get?_push_of_some _ e))
    rcases List.mem_cons.mp m with z | z
    · exact Nat.ne_of_lt lb z
    · have z := List.mem_singleton.mp z
      rw [sz] at z
      exact Nat.ne_of_lt (Nat.lt_succ_of_lt lb) z
set_option maxHeartbeats 3200000 in
theorem set_of_list {l : Addr} {its : Array Value} {ns : List Int} {Q : Value → Shared → Prop} (a0 : A.handled = none) (hl : s.heap.IsList l its) (hi : IntsAre its.toList ns) (hb : ns.length + 1 < scanBound)
    (k : ∀ r s2, Got w s ns r s2 → Q r s2) : wpAny (model P w) A (call (.type "set") [.ref l]) Q E s := by
  obtain ⟨c, tl, hmro⟩ := F.called_set.mro
  refine wpAny_call (codeAny_of_tree ?_)
  show wpAny _ _ (callAny (.type "set") _) _ _ _
  refine wpAny_pure ⟨Code.quiet_builtin _ (by decide +kernel), codeAny_builtin F.entry_type_call ?_⟩
  rw [Around.under_plain (weight_type_call_type "set" [.ref l] []) rfl]
  have m1 := F.called_set.made
  have m2 := F.called_set.sub
  have m3 := F.called_set.notType
  have m4 := F.called_set.canCreate
  have m5 := F.typeCall_set_1 (.ref l)
  repeat (any_goals (first | assumption | wp_step))
  refine codeAny_mono (code_set_led1 (.ref l) (E := E) (Q₁ := fun u t => u = .ref s.heap.objs.size ∧ t = { s with heap := s.heap.push (zO w) }) ⟨rfl, rfl⟩) fun r s1 hr => ?_
  match r, hr with
  | .ok (.ret u), hr =>
    obtain ⟨rfl, rfl⟩ := hr
    have g0 : (s.heap.push (zO w)).get? s.heap.objs.size = some (zO w) := Heap.get?_push_size _ rfl
    have hT : Shared.TypeIs { s with heap := s.heap.push (zO w) } (.ref s.heap.objs.size) "set" := ⟨_, g0, rfl⟩
    have m6 := F.called_set.init.lookup
    have m7 := F.called_set.init.bind (.ref s.heap.objs.size)
    repeat (any_goals (first | assumption | wp_step))
    refine codeAny_mono (fill_list (P := P) (w := w) (E := E) a0 hl hi hb) fun r2 s2 h2 => ?_
    match r2, h2 with
    | .ok (.ret u), h2 =>
      obtain ⟨rfl, G⟩ := h2
      repeat (any_goals (first | assumption | wp_step))
      exact k _ _ G
    | .error e, h2 => exact h2
    | .ok .next, h2 => exact h2.elim
    | .ok .brk, h2 => exact h2.elim
    | .ok .cont, h2 => exact h2.elim
  | .error e, hr => exact hr
  | .ok .next, hr => exact hr.elim
  | .ok .brk, hr => exact hr.elim
  | .ok .cont, hr => exact hr.elim
end
/-- set(l) of a list of ints -/
def rSetL (K : PySem.W.Frag) (w : World) : List V → Hp → VK → Prop := fun xs H Q => ∃ (l : Addr) (ns : List Int), xs = [.ref l] ∧ SqL K H l (ns.map V.int) ∧ ns.length ≤ 1000 ∧ ∀ p c, H p = none → c ≤ ns.length → Q (.ref p) (upd H p (SetO w p (fun j => decide (j ∈ ns)) c))
theorem cr_setL {X : Cx} (hc : X.calm = true) : CallR X (.type "set") (rSetL X.K X.w) := by
  intro pins s σ H xs us Q I r h
  obtain ⟨l, ns, rfl, hq, hz, q⟩ := h
  rw [Vals.ref1 r]
  obtain ⟨its, rv, pl, _⟩ := I.list hq
  refine set_of_list (ns := ns) (I.ok.hd hc) pl.isList (by simpa using RZ.intsAre_vals rv) (by unfold scanBound; omega) fun u s2 ⟨e1, h', tk, c, e2, R, hc', kp⟩ => ?_
  subst e1 e2
  have hn : H s.heap.objs.size = none := I.hok.fresh (Nat.le_refl _)
  exact ⟨.ref s.heap.objs.size, _, I.laid (t' := tk) kp (Nat.le_refl _) (setO_new R), rfl, q _ c hn hc'⟩
end Hk
end S_Wm
section S_Wn
namespace Hk
open PySem PySem.Spec PyProof.Rows L2 Tl
/-- the i-th of xs, and what stands while it is walked -/
def YRow (xs : List V) (W : Hp → Prop) : Nat → Hp → V → Hp → Prop := fun i H v H' => H' = H ∧ xs[i]? = some v ∧ W H
section
open Evl
variable {K : PySem.W.Frag} {σ : L2.St} {H : Hp} {te : TE}
theorem ei_rowsL {a : Addr} {xs : List V} {n : Nat} {W : Hp → Prop} (h : Ev te σ H (.ref a)) (hx : SqL K H a xs) (hn : n = xs.length) (hW : ∀ A, Ex H A → W A) : EvI (iList K te) σ H n (YRow xs W) := fun H1 e R k => by
  subst hn
  exact h H1 e _ fun H2 e2 => ⟨a, rfl, ⟨xs, ex_l (e.trans e2) hx⟩, k _ (fun A => SqL K A a xs ∧ W A) H2 e2 (walk_list.mono (fun _ q => q.1) fun i A v A' hi q y => ⟨y.1, y.2, q.2⟩) fun A ab _ => ⟨ex_l ab hx, hW A ab⟩⟩
theorem ei_rowsT {a : Addr} {xs : List V} {n : Nat} {W : Hp → Prop} (h : Ev te σ H (.ref a)) (hx : SqT K H a xs) (hn : n = xs.length) (hW : ∀ A, Ex H A → W A) : EvI (iTup K te) σ H n (YRow xs W) := fun H1 e R k => by
  subst hn
  exact h H1 e _ fun H2 e2 => ⟨a, rfl, ⟨xs, ex_t (e.trans e2) hx⟩, k _ (fun A => SqT K A a xs ∧ W A) H2 e2 (walk_tup.mono (fun _ q => q.1) fun i A v A' hi q y => ⟨y.1, y.2, q.2⟩) fun A ab _ => ⟨ex_t ab hx, hW A ab⟩⟩
theorem ei_rng3 {ta : TA} {i j c : Int} {n : Nat} (h : EvA ta σ H [.int i, .int j, .int c]) (hr : RgC i j c n) : EvI (iRng3 ta) σ H n (YFn fun k => .int (i + (k : Nat) * c)) := fun H1 e R k =>
  h H1 e _ fun H2 e2 => ⟨i, j, c, n, rfl, hr, k _ _ H2 e2 walk_rangeC fun _ _ _ => trivial⟩
end
section
open Evl
variable {K : PySem.W.Frag} {σ : L2.St} {H : Hp}
/-- tuple(list made now) -/
theorem en_tupNL {ta : TE} {L : List V → Hp → Prop} (h : EvNL ta σ H L) : EvN (tCB (fun xs H Q => ∃ p ys, xs = [V.ref p] ∧ ((SqL K H p ys ∧ ∀ l, H l = none → Q (V.ref l) (upd H l (HO.tup ys))) ∨ (SqT K H p ys ∧ Q (V.ref p) H))) (tCons ta tNil)) σ H
    (fun u H' => ∃ t xs, u = .ref t ∧ H' t = some (.tup xs) ∧ L xs H') := fun H1 e Q q =>
  h H1 e _ fun p xs H2 hp e2 h2 hL => ⟨p, xs, rfl, .inl ⟨sq_of h2, fun t ht => q _ _ (e2.trans (Ex.new ht)) fun H3 h3 s3 => ⟨t, xs, rfl, s3 _ _ (fresh_back e2 ht) upd_same, hL H3 h3 fun a o _ ha hb => by
    refine s3 a o ha ?_
    rw [upd_ne (ne_of_none hb ht)]
    exact hb⟩⟩⟩
end
theorem ev_anyN {K : PySem.W.Frag} {ta : TE} {σ : L2.St} {H : Hp} {bs : List Bool} (h : Evl.EvL ta σ H (bs.map V.bl)) : Evl.Ev (tCB (rAny K) (tCons ta tNil)) σ H (.bl (bs.any id)) := fun H1 e Q q =>
  h H1 e _ fun p H2 hp e2 h2 => ⟨p, bs, rfl, Evl.sq_of h2, q H2 e2⟩
/-- a for over what EvI tells; the body may write what is not of the walk -/
theorem s_forI {wi : TI} {g : TG} {tb : TS} {D : Ends} {σ : L2.St} {H B : Hp} {n : Nat} {Y : Nat → Hp → V → Hp → Prop} {s : Nat → L2.St → L2.St} (hw : EvI wi σ B n Y) (aim : Aims g n Y s) (e : Evl.Ex B H) (Pv : Hp → Nat → L2.St → Hp → Prop) (h0 : ∀ H2, Evl.Ex H H2 → Pv H2 0 σ H2)
    (hk : ∀ H2 i σ' H', Evl.Ex H H2 → i ≤ n → Pv H2 i σ' H' → Evl.Ex B H' ∧ Since H H2 H') (hs : ∀ H2 i σ' H' H'', Evl.Ex H H2 → i < n → Pv H2 i σ' H' → Evl.Ex H' H'' → tb { D with nx := Pv H2 (i + 1), ct := Pv H2 (i + 1), bk := D.nx } (s i σ') H'')
    (hd : ∀ H2 σ' H', Evl.Ex H H2 → Pv H2 n σ' H' → D.nx σ' H') : tFor wi g tb D σ H :=
  hw H e _ fun J G H2 e2 w sG => for_it w (Pv H2) (h0 H2 e2) (fun i σ' H' hi p => sG H' (hk H2 i σ' H' e2 hi p).1 (hk H2 i σ' H' e2 hi p).2)
    (fun i x σ' H' H'' hi p y => by
      obtain ⟨ab, k⟩ := aim i σ' H' x H'' hi y
      exact k _ (hs H2 i σ' H' H'' e2 hi p ab)) (fun σ' H' p => hd H2 σ' H' e2 p)
theorem q_forI {wi : TI} {g : TG} {tb tz : TS} {D : Ends} {σ : L2.St} {H B : Hp} {n : Nat} {Y : Nat → Hp → V → Hp → Prop} {s : Nat → L2.St → L2.St} (hw : EvI wi σ B n Y) (aim : Aims g n Y s) (e : Evl.Ex B H) (Pv : Hp → Nat → L2.St → Hp → Prop) (h0 : ∀ H2, Evl.Ex H H2 → Pv H2 0 σ H2)
    (hk : ∀ H2 i σ' H', Evl.Ex H H2 → i ≤ n → Pv H2 i σ' H' → Evl.Ex B H' ∧ Since H H2 H') (hs : ∀ H2 i σ' H' H'', Evl.Ex H H2 → i < n → Pv H2 i σ' H' → Evl.Ex H' H'' → tb { D with nx := Pv H2 (i + 1), ct := Pv H2 (i + 1), bk := tz D } (s i σ') H'')
    (hd : ∀ H2 σ' H', Evl.Ex H H2 → Pv H2 n σ' H' → tz D σ' H') : tSeq (tFor wi g tb) tz D σ H := s_forI (D := { D with nx := tz D }) hw aim e Pv h0 hk hs hd
theorem el_catVN {σ : L2.St} {H : Hp} {ta tb : TE} {m : Addr} {xs ys : List V} (ha : Evl.Ev ta σ H (.ref m)) (hm : H m = some (.lst xs)) (hb : Evl.EvL tb σ H ys) (hz : xs.length + ys.length ≤ 100000) : Evl.EvL (tOp rCat ta tb) σ H (xs ++ ys) := fun H1 e Q q =>
  ha H1 e _ fun H2 e2 => hb H2 (e.trans e2) _ fun p H3 _ e3 h3 => ⟨m, p, xs, ys, rfl, rfl, e3 _ _ (e2 _ _ (e _ _ hm)), h3, Evl.sz_of hz, fun r hr => q r _ (Evl.fresh_back (e2.trans e3) hr) ((e2.trans e3).trans (Evl.Ex.new hr)) upd_same⟩
/-- a, b = a row of two -/
theorem aims_rowT2 {K : PySem.W.Frag} {xs : List V} {n j1 j2 : Nat} {c : Nat → V × V} : Aims (gTup K 2 (gCons (gName j1) (gCons (gName j2) gNil))) n
    (YRow xs fun H => ∀ i v, i < n → xs[i]? = some v → ∃ r, v = .ref r ∧ H r = some (.tup [(c i).1, (c i).2])) (fun i σ => (σ.set j1 (some (c i).1)).set j2 (some (c i).2)) := fun i σ H v H' hi y => by
  obtain ⟨rfl, hv, w⟩ := y
  obtain ⟨r, rfl, hr⟩ := w i v hi hv
  exact ⟨Evl.Ex.refl _, fun Q q => ⟨r, _, rfl, Evl.st_of hr, rfl, _, _, rfl, _, _, rfl, rfl, q⟩⟩
/-- a, b, c = a row of three, a list -/
theorem aims_rowL3 {K : PySem.W.Frag} {xs : List V} {n j1 j2 j3 : Nat} {c : Nat → V × V × V} : Aims (gLst K 3 (gCons (gName j1) (gCons (gName j2) (gCons (gName j3) gNil)))) n
    (YRow xs fun H => ∀ i v, i < n → xs[i]? = some v → ∃ r, v = .ref r ∧ H r = some (.lst [(c i).1, (c i).2.1, (c i).2.2])) (fun i σ => ((σ.set j1 (some (c i).1)).set j2 (some (c i).2.1)).set j3 (some (c i).2.2)) := fun i σ H v H' hi y => by
  obtain ⟨rfl, hv, w⟩ := y
  obtain ⟨r, rfl, hr⟩ := w i v hi hv
  exact ⟨Evl.Ex.refl _, fun Q q => ⟨r, _, rfl, Evl.sq_of hr, rfl, _, _, rfl, _, _, rfl, _, _, rfl, rfl, q⟩⟩
theorem joinL_length (S : List Nat) : ∀ ps : List (List Nat), (TL.joinL S ps).length ≤ (ps.map List.length).sum + ps.length * S.length
  | [] => by unfold TL.joinL; simp
  | [p] => by unfold TL.joinL; simp
  | p :: q :: r => by
    have ih := joinL_length S (q :: r)
    have e : TL.joinL S (p :: q :: r) = p ++ (S ++ TL.joinL S (q :: r)) := rfl
    rw [e, List.length_append, List.length_append, List.map_cons, List.sum_cons, List.length_cons, Nat.add_mul]
    omega
theorem tl_length (s : Str) : (TL.tl s).length = s.length := (TL.len_tl s).symm
theorem join_len (y : Str) (ps : List Str) : (Txt.join y ps).length ≤ (ps.map (·.length)).sum + ps.length * y.length := by
  rw [← tl_length, TL.join_eq, TL.tl_join]
  refine Nat.le_trans (joinL_length _ _) ?_
  rw [List.map_map, List.length_map, tl_length]
  have : (ps.map (List.length ∘ TL.tl)) = ps.map (·.length) := List.map_congr_left fun p _ => tl_length p
  rw [this] <;> exact Nat.le_refl _
end Hk
namespace Hk
open PySem PySem.Spec PyProof.Rows L2 Tl
open Evl
theorem ev_neNilL {K : PySem.W.Frag} {σ : L2.St} {H : Hp} {ta : TE} {cs : List Int} (h : EvL ta σ H (cs.map V.int)) : Ev (tOp (rNeD K) ta (tLst tNil)) σ H (.bl (!cs.isEmpty)) :=
  ev_opLL (ys := []) h (el_lst ea_nil (Nat.zero_le _)) fun p q H1 h1 h2 _ => fun H2 e2 Q k => by
    refine ⟨.list (zD cs), .list [], .lst (sq_of (e2 _ _ h1)) (dp_zD cs), .lst (sq_of (e2 _ _ h2)) .nil, PySem.W.ke_shaped_ints cs, by decide +kernel, ?_⟩
    have e3 : PyData.eqv (.list (zD cs)) (.list []) = cs.isEmpty := by cases cs <;> rfl
    rw [e3]
    exact k H2 (Ex.refl H2)
/-- the heap without one object -/
def but (t : Addr) (H : Hp) : Hp := fun a => if a = t then none else H a
theorem but_le {t : Addr} {H : Hp} : Ex (but t H) H := fun a o h => by
  unfold but at h
  split at h
  · cases h
  · exact h
theorem but_at {t a : Addr} {H : Hp} (h : a ≠ t) : but t H a = H a := if_neg h
/-- a comprehension whose body draws -/
theorem go_lcT {wi : TI} {g : TG} {tt : TT} {te : TE} {vs : List Nat} {n : Nat} {Y : Nat → Hp → V → Hp → Prop} {s : Nat → L2.St → L2.St} {σ : L2.St} {H : Hp} {Q : VK} {t : Addr} {o : HO} (ho : H t = some o)
    (hw : EvI wi σ (but t H) n Y) (aim : Aims g n Y s) (hs : ∀ i, wipe (s i (wipe σ vs)) vs = wipe σ vs) (hn : n ≤ 40000) (R : Nat → List V → Hp → Prop)
    (h0 : ∀ H2, Ex H H2 → R 0 [] H2) (hx : ∀ i acc A B, R i acc A → Ex A B → R i acc B)
    (hu : ∀ i acc A D l l', H D = none → D ≠ t → A D = some (.lst l) → R i acc A → R i acc (upd A D (.lst l')))
    (hst : ∀ i acc A (F1 : V → Hp → Prop) (F2 : Hp → Prop), i < n → (∀ a o, a ≠ t → H a = some o → A a = some o) → acc.length ≤ i → R i acc A →
      (∀ y H4, (∀ a o, a ≠ t → A a = some o → H4 a = some o) → R (i + 1) (acc ++ [y]) H4 → F1 y H4) → (∀ H3, (∀ a o, a ≠ t → A a = some o → H3 a = some o) → R (i + 1) acc H3 → F2 H3) →
      tt (s i (wipe σ vs)) A fun b H3 => if b = true then te (s i (wipe σ vs)) H3 F1 else F2 H3)
    (hd : ∀ D acc A, H D = none → D ≠ t → A D = some (.lst acc) → acc.length ≤ n → (∀ a o, a ≠ t → H a = some o → A a = some o) → R n acc A → Q (.ref D) A) : tLc wi g tt te vs σ H Q :=
  hw H but_le _ fun J G H2 e2 w sG D hD => by
    have D0 : H D = none := fresh_back e2 hD
    have Dt : D ≠ t := fun z => by rw [z, ho] at D0; cases D0
    have kp : ∀ {A : Hp}, (∀ a o, a ≠ t → H2 a = some o → A a = some o) → ∀ a o, a ≠ t → H a = some o → A a = some o := fun k a o ha h => k a o ha (e2 _ _ h)
    refine lc_it w (fun i A => (∀ a o, a ≠ t → H2 a = some o → A a = some o) ∧ ∃ acc, A D = some (.lst acc) ∧ acc.length ≤ i ∧ R i acc A) ⟨fun a o _ h => Ex.new hD a o h, [], upd_same, Nat.le_refl _, h0 _ (e2.trans (Ex.new hD))⟩ (fun i A _ p => sG A (fun a o h => ?_) fun a o h1 h2 => p.1 a o (fun z => by rw [z, ho] at h1; cases h1) h2)
      (fun i x A B hi p y => ?_) (fun A ⟨p1, acc, p2, p5, p3⟩ => hd D acc A D0 Dt p2 p5 (kp p1) p3)
    · by_cases z : a = t
      · rw [z] at h
        unfold but at h
        rw [if_pos rfl] at h
        cases h
      · rw [but_at z] at h
        exact kp p.1 a o z h
    · obtain ⟨p1, acc, p2, p3, p4⟩ := p
      obtain ⟨ab, k⟩ := aim i (wipe σ vs) A x B hi y
      refine k _ ⟨hs i, ?_⟩
      have hB : B D = some (.lst acc) := ab _ _ p2
      have pB : ∀ a o, a ≠ t → H2 a = some o → B a = some o := fun a o ha h => ab _ _ (p1 a o ha h)
      refine hst i acc B _ _ hi (kp pB) p3 (hx _ _ _ _ p4 ab) (fun y H4 k4 r4 => ?_) fun H3 k3 r3 => ⟨fun a o ha h => k3 a o ha (pB a o ha h), acc, k3 _ _ Dt hB, by omega, r3⟩
      have h4 : H4 D = some (.lst acc) := k4 _ _ Dt hB
      refine ⟨acc, h4, sz_lt (by omega), fun a o ha h => ?_, acc ++ [y], upd_same, by rw [List.length_append, List.length_singleton]; omega, hu _ _ _ _ _ _ D0 Dt h4 r4⟩
      rw [upd_ne (ne_of_none h hD)]
      exact k4 a o ha (pB a o ha h)
end Hk
end S_Wn
section S_Wo
namespace Hk
open PySem PySem.Spec PyProof.Rows L2 Tl
mutual
theorem dp_ex {K : PySem.W.Frag} {H H' : Hp} (e : Evl.Ex H H') : ∀ {v : V} {d : PyData}, Dp K H v d → Dp K H' v d
  | _, _, .non => .non
  | _, _, .bl b => .bl b
  | _, _, .int i => .int i
  | _, _, .str x => .str x
  | _, _, .lst h a => .lst (Evl.ex_l e h) (dpa_ex e a)
  | _, _, .tup h a => .tup (Evl.ex_t e h) (dpa_ex e a)
theorem dpa_ex {K : PySem.W.Frag} {H H' : Hp} (e : Evl.Ex H H') : ∀ {vs : List V} {ds : List PyData}, DpAll K H vs ds → DpAll K H' vs ds
  | _, _, .nil => .nil
  | _, _, .cons h a => .cons (dp_ex e h) (dpa_ex e a)
end
/-- a value that can be compared -/
def DpS (K : PySem.W.Frag) (H : Hp) (v : V) : Prop := ∃ d, Dp K H v d ∧ d.canLay0 = true ∧ d.depth ≤ 5
theorem DpS.ex {K : PySem.W.Frag} {H H' : Hp} {v : V} (h : DpS K H v) (e : Evl.Ex H H') : DpS K H' v := h.imp fun d ⟨a, b⟩ => ⟨dp_ex e a, b⟩
theorem lay_all : ∀ {ds : List PyData}, (∀ d ∈ ds, d.canLay0 = true) → PyData.canLayAll0 ds = true
  | [], _ => rfl
  | d :: r, h => by
    unfold PyData.canLayAll0
    rw [h d List.mem_cons_self, lay_all fun x hx => h x (List.mem_cons_of_mem _ hx)]
    rfl
theorem deep_all {c : Nat} : ∀ {ds : List PyData}, (∀ d ∈ ds, d.depth ≤ c) → PyData.depthAll ds ≤ c
  | [], _ => Nat.zero_le _
  | d :: r, h => by
    unfold PyData.depthAll
    have h1 := h d List.mem_cons_self
    have h2 := deep_all fun x hx => h x (List.mem_cons_of_mem _ hx)
    omega
theorem shaped_list {c : Nat} (hc : c ≤ 60) {ds : List PyData} (h : ∀ d ∈ ds, d.canLay0 = true ∧ d.depth ≤ c) : SeqAt.shaped (.list ds) = true := by
  unfold SeqAt.shaped
  have h1 : (PyData.list ds).canLay0 = true := by unfold PyData.canLay0; exact lay_all fun d hd => (h d hd).1
  have h2 : (PyData.list ds).depth ≤ 64 := by
    have := deep_all fun d hd => (h d hd).2
    unfold PyData.depth
    omega
  rw [h1, decide_eq_true h2] <;> rfl
theorem dps_all {K : PySem.W.Frag} {H : Hp} : ∀ {xs : List V}, (∀ v ∈ xs, DpS K H v) → ∃ ds, DpAll K H xs ds ∧ (∀ d ∈ ds, d.canLay0 = true ∧ d.depth ≤ 5) ∧ ds.length = xs.length
  | [], _ => ⟨[], .nil, fun d hd => (nomatch hd), rfl⟩
  | v :: r, h => by
    obtain ⟨d, a, b⟩ := h v List.mem_cons_self
    obtain ⟨ds, c1, c2, c3⟩ := dps_all (xs := r) fun x hx => h x (List.mem_cons_of_mem _ hx)
    refine ⟨d :: ds, .cons a c1, fun x hx => ?_, by rw [List.length_cons, List.length_cons, c3]⟩
    rcases List.mem_cons.mp hx with rfl | hx
    · exact b
    · exact c2 x hx
theorem eqv_nil (ds : List PyData) : PyData.eqv (.list ds) (.list []) = ds.isEmpty := by
  cases ds with
  | nil => rfl
  | cons d r => rfl
section
open Evl
variable {K : PySem.W.Frag} {σ : L2.St} {H : Hp} {ta tb : TE}
theorem ev_eqNilD {xs : List V} (ha : EvL ta σ H xs) (hb : EvL tb σ H []) (hx : ∀ v ∈ xs, DpS K H v) : Ev (tOp (rEqD K) ta tb) σ H (.bl xs.isEmpty) :=
  ev_opLL ha hb fun p q H1 h1 h2 e1 => fun H2 e2 Q k => by
    obtain ⟨ds, d1, d2, d3⟩ := dps_all (K := K) (H := H2) (xs := xs) fun v hv => (hx v hv).ex (e1.trans e2)
    refine ⟨.list ds, .list [], .lst (sq_of (e2 _ _ h1)) d1, .lst (sq_of (e2 _ _ h2)) .nil, shaped_list (c := 5) (by decide) d2, shaped_list (c := 5) (by decide) (fun d hd => nomatch hd), ?_⟩
    rw [eqv_nil]
    have : ds.isEmpty = xs.isEmpty := by cases ds <;> cases xs <;> first | rfl | (cases d3)
    rw [this]
    exact k H2 (Ex.refl H2)
theorem ev_neNilD {xs : List V} (ha : EvL ta σ H xs) (hb : EvL tb σ H []) (hx : ∀ v ∈ xs, DpS K H v) : Ev (tOp (rNeD K) ta tb) σ H (.bl !xs.isEmpty) :=
  ev_opLL ha hb fun p q H1 h1 h2 e1 => fun H2 e2 Q k => by
    obtain ⟨ds, d1, d2, d3⟩ := dps_all (K := K) (H := H2) (xs := xs) fun v hv => (hx v hv).ex (e1.trans e2)
    refine ⟨.list ds, .list [], .lst (sq_of (e2 _ _ h1)) d1, .lst (sq_of (e2 _ _ h2)) .nil, shaped_list (c := 5) (by decide) d2, shaped_list (c := 5) (by decide) (fun d hd => nomatch hd), ?_⟩
    rw [eqv_nil]
    have : ds.isEmpty = xs.isEmpty := by cases ds <;> cases xs <;> first | rfl | (cases d3)
    rw [this]
    exact k H2 (Ex.refl H2)
end
end Hk
end S_Wo
section S_Wp
namespace Hk
open PySem PySem.Spec PyProof.Rows L2 Tl
def rIxB (K : PySem.W.Frag) : R2 := fun x y H Q => rIxL K x y H Q ∨ rIxT K x y H Q
theorem ix_any2 {X : Cx} : IxR X (rIxB X.K) := fun value slice pins s σ H x y v u Q I r1 r2 h e => h.elim (fun h => ix_list value slice pins s σ H x y v u Q I r1 r2 h e) (fun h => ix_tup value slice pins s σ H x y v u Q I r1 r2 h e)
/-- a list or a tuple -/
def SqS (K : PySem.W.Frag) (H : Hp) (a : Addr) (xs : List V) : Prop := SqL K H a xs ∨ SqT K H a xs
theorem SqS.ex {K : PySem.W.Frag} {H H' : Hp} {a : Addr} {xs : List V} (h : SqS K H a xs) (e : Evl.Ex H H') : SqS K H' a xs := h.elim (fun h => .inl (Evl.ex_l e h)) (fun h => .inr (Evl.ex_t e h))
theorem rv_ixB {K : PySem.W.Frag} {H : Hp} {v : V} {p : Addr} {xs : List V} {i : Int} (h : SqS K H p xs) (ha : atI xs i = some v) : Evl.RV (rIxB K) (.ref p) (.int i) H v := fun H1 e Q q =>
  h.elim (fun h => .inl (Evl.rv_ixL h ha H1 e Q q)) (fun h => .inr (Evl.rv_ixT h ha H1 e Q q))
theorem ev_lenB {K : PySem.W.Frag} {ta : TE} {σ : L2.St} {H : Hp} {p : Addr} {xs : List V} (ha : Evl.Ev ta σ H (.ref p)) (h : SqS K H p xs) : Evl.Ev (tCB (Evl.rLenS K) (tCons ta tNil)) σ H (.int (xs.length : Int)) := fun H1 e Q q =>
  ha H1 e _ fun H2 e2 => ⟨p, xs, rfl, h.ex (e.trans e2), q H2 e2⟩
theorem ev_ixB {K : PySem.W.Frag} {te : TE} {σ : L2.St} {H : Hp} {a : Addr} {xs : List V} {j : Nat} {v : V} (h : Evl.Ev te σ H (.ref a)) (ha : SqS K H a xs) (hv : xs[j]? = some v) : Evl.Ev (tOp (rIxB K) te (tC (.int (j : Int)))) σ H v := Evl.ev_op h Evl.ev_c (rv_ixB ha (atI_nat hv))
/-- a walk over a list or a tuple -/
def iEi (K : PySem.W.Frag) (te : TE) : TI := fun σ H R => iList K te σ H R ∨ iTup K te σ H R
theorem pi_ei {X : Cx} {tg e : Expr} {te : TE} (he : PE X e te) : PI X tg e (iEi X.K te) := ⟨fun pins s σ H R I h => h.elim (fun h => (pi_list (tg := tg) he).run pins s σ H R I h) fun h => (pi_tup (tg := tg) he).run pins s σ H R I h⟩
theorem ei_ei {K : PySem.W.Frag} {σ : L2.St} {H : Hp} {te : TE} {a : Addr} {xs : List V} (h : Evl.Ev te σ H (.ref a)) (hs : SqS K H a xs) : EvI (iEi K te) σ H xs.length (YAt xs) := fun H1 e R k => hs.elim (fun hs => .inl (ei_list h hs H1 e R k)) fun hs => .inr (ei_tup h hs H1 e R k)
/-- a, b, .. = a list or a tuple of that length -/
def gEi (K : PySem.W.Frag) (n : Nat) (t : TGs) : TG := fun v σ H Q => gLst K n t v σ H Q ∨ gTup K n t v σ H Q
theorem gEi_of {K : PySem.W.Frag} {n : Nat} {t : TGs} {a : Addr} {xs : List V} {σ : L2.St} {H : Hp} {Q : L2.St → Hp → Prop} (h : SqS K H a xs) (hn : xs.length = n) (q : t xs σ H Q) : gEi K n t (.ref a) σ H Q := h.elim (fun h => .inl ⟨a, xs, rfl, h, hn, q⟩) fun h => .inr ⟨a, xs, rfl, h, hn, q⟩
theorem pg_ei {X : Cx} {pos : Pos} {es : List Expr} {k : Nat} {t : TGs} {n : Nat} (hc : X.calm = true) (h : PGs X es t)
    (hn : (assignEach es X.env).length = n := by rfl) (hst : (assignEach es X.env).findIdx? (·.1) = none := by rfl) : PG X (.Tuple es k pos) (gEi X.K n t) :=
  ⟨fun pins s σ H v u Q I r hw => hw.elim (fun hw => (pg_lst hc h hn hst).run pins s σ H v u Q I r hw) fun hw => (pg_tup hc h hn hst).run pins s σ H v u Q I r hw⟩
noncomputable def pd (p : Prop) : Bool := @decide p (Classical.propDecidable p)
theorem pd_true {p : Prop} (h : p) : pd p = true := @decide_eq_true p (Classical.propDecidable p) h
theorem pd_false {p : Prop} (h : ¬p) : pd p = false := @decide_eq_false p (Classical.propDecidable p) h
theorem pd_of {p : Prop} (h : pd p = true) : p := @of_decide_eq_true p (Classical.propDecidable p) h
theorem pd_not {p : Prop} (h : pd p = false) : ¬p := @of_decide_eq_false p (Classical.propDecidable p) h
theorem pd_is {p : Prop} {b : Bool} (h : p ↔ b = true) : pd p = b := by
  cases b with
  | true => exact pd_true (h.mpr rfl)
  | false => exact pd_false fun z => nomatch h.mp z
end Hk
end S_Wp
section S_Qj
namespace P04
open PySem PySem.Spec PyProof.Rows L2 Tl Hk
/-! ### values that may be turns -/
/-- a list or a tuple that stands in the heap -/
def SqP (H : Hp) (a : Addr) (xs : List V) : Prop := H a = some (.lst xs) ∨ H a = some (.tup xs)
theorem SqP.ex {H H' : Hp} {a : Addr} {xs : List V} (h : SqP H a xs) (e : Evl.Ex H H') : SqP H' a xs := h.imp (e _ _) (e _ _)
theorem SqP.s {K : PySem.W.Frag} {H : Hp} {a : Addr} {xs : List V} (h : SqP H a xs) : SqS K H a xs := h.imp Evl.sq_of Evl.st_of
/-- a value, and its items if it is a list or a tuple -/
inductive RowD (K : PySem.W.Frag) (H : Hp) : V → Option (List V) → Prop where
  | no {x : V} {n : String} (h : Ty7 K H x n) (h1 : n ≠ "list") (h2 : n ≠ "tuple") : RowD K H x none
  | seq {a : Addr} {ys : List V} (h : SqP H a ys) (hl : ys.length ≤ 1000) (hi : ∀ v ∈ ys, (∃ n, Ty7 K H v n) ∧ DpS K H v) : RowD K H (.ref a) (some ys)
theorem RowD.ex {K : PySem.W.Frag} {H H' : Hp} {x : V} {r : Option (List V)} (h : RowD K H x r) (e : Evl.Ex H H') : RowD K H' x r := by
  cases h with
  | no h h1 h2 => exact .no (h.ex e) h1 h2
  | seq h hl hi => exact .seq (h.ex e) hl fun v hv => ⟨(hi v hv).1.imp fun n hn => hn.ex e, (hi v hv).2.ex e⟩
theorem RowD.ty {K : PySem.W.Frag} {H : Hp} {x : V} {r : Option (List V)} (h : RowD K H x r) : ∃ n, Ty7 K H x n := by
  cases h with
  | no h _ _ => exact ⟨_, h⟩
  | seq h _ _ =>
    rcases h with h | h
    · exact ⟨_, .lst (Evl.sq_of h)⟩
    · exact ⟨_, .tup (Evl.st_of h)⟩
def lotO : Option (List V) → Bool
  | none => false
  | some ys => lotV ys
theorem RowD.lot {K : PySem.W.Frag} {H : Hp} {x : V} {r : Option (List V)} (h : RowD K H x r) : LotR K H x (lotO r) := by
  cases h with
  | no h h1 h2 => exact .no h h1 h2
  | seq h hl hi =>
    rcases h with h | h
    · exact .lst (Evl.sq_of h) (by omega) fun v hv => (hi v hv).1
    · exact .tup (Evl.st_of h) (by omega) fun v hv => (hi v hv).1
/-- a value, and its rows if it is a list or a tuple -/
inductive TurnsD (K : PySem.W.Frag) (H : Hp) : V → Option (List (Option (List V))) → Prop where
  | no {x : V} {n : String} (h : Ty7 K H x n) (h1 : n ≠ "list") (h2 : n ≠ "tuple") : TurnsD K H x none
  | seq {a : Addr} {xs : List V} {rs : List (Option (List V))} (h : SqP H a xs) (hn : xs.length = rs.length) (hl : xs.length ≤ 2000) (hi : ∀ (i : Nat) (v : V) (r : Option (List V)), xs[i]? = some v → rs[i]? = some r → RowD K H v r) (hz : (rs.map fun r => (r.getD []).length).sum ≤ 30000) : TurnsD K H (.ref a) (some rs)
theorem TurnsD.ex {K : PySem.W.Frag} {H H' : Hp} {x : V} {r : Option (List (Option (List V)))} (h : TurnsD K H x r) (e : Evl.Ex H H') : TurnsD K H' x r := by
  cases h with
  | no h h1 h2 => exact .no (h.ex e) h1 h2
  | seq h hn hl hi hz => exact .seq (h.ex e) hn hl (fun i v r a b => (hi i v r a b).ex e) hz
/-- whether a row is a turn of the place p of m -/
def turnV (p m : Int) : Option (List V) → Bool
  | none => false
  | some ys => lotV ys && (!ys.contains (.int p)) && ys.all fun v => match v with | .int i => decide (i ≤ m) | _ => false
def spIsTurnG (K : PySem.W.Frag) : Sp := fun vs H Q _ => ∃ (v : V) (r : Option (List V)) (p m : Int), vs = [v, .int p, .int m] ∧ RowD K H v r ∧ ∀ H1, Evl.Ex H H1 → Q (.bl (turnV p m r)) H1
theorem spv_isTurnG {K : PySem.W.Frag} {H : Hp} {v : V} {r : Option (List V)} {p m : Int} (h : RowD K H v r) : Evl.SpV (spIsTurnG K) [v, .int p, .int m] H (.bl (turnV p m r)) := fun H1 e Q q E => ⟨v, r, p, m, rfl, h.ex e, q⟩
theorem contains_int (p : Int) (ns : List Int) : (ns.map V.int).contains (.int p) = decide (p ∈ ns) := by
  by_cases h : p ∈ ns
  · rw [decide_eq_true h, List.contains_iff_mem]
    exact List.mem_map.mpr ⟨p, h, rfl⟩
  · rw [decide_eq_false h]
    cases z : (ns.map V.int).contains (.int p) with
    | false => rfl
    | true =>
      rw [List.contains_iff_mem] at z
      obtain ⟨q, hq, e⟩ := List.mem_map.mp z
      cases e
      exact absurd hq h
theorem turnV_ints (p m : Int) (ns : List Int) : turnV p m (some (ns.map V.int)) = (lotV (ns.map V.int) && (!decide (p ∈ ns)) && ns.all fun i => decide (i ≤ m)) := by
  show (lotV (ns.map V.int) && (!(ns.map V.int).contains (.int p)) && (ns.map V.int).all fun v => match v with | .int i => decide (i ≤ m) | _ => false) = _
  rw [contains_int, List.all_map]
  rfl
section
variable {P : Program} {w : World} {K : PySem.W.Frag} {mg : Str → Option Value} {base : Heap}
theorem ok_isTurnG {f fO : Addr} {fd fdO : FuncData} {k : Nat} (F : Fun K "_is_turn" "_is_turn" sIsTurn f fd)
    (FO : Fun K "is_lot" "is_lot" sLot fO fdO) (GO : FnOk P w K mg base CX0 k fO fdO ["value"] (spLot K)) (bO : Binds K fdO ["value"] []) (gO : mg "is_lot" = some (.ref fO)) (mall : mg "all" = none) :
    FnOk P w K mg base CX0 (k + 1) f fd ["turn", "place", "many"] (spIsTurnG K) := by
  refine F.ok scIsTurn (fun vs H Q E h => ?_) (fun cdv A outer s H vs Q E hr h => ?_)
  · obtain ⟨v, r, p, m, rfl, _⟩ := h
    rfl
  · obtain ⟨v, r, p, m, rfl, hD, q⟩ := h
    have nd := scIsTurn.nd
    refine ⟨_, pss_one (ps_ret (pe_and (pe_call GO hr (by rfl) gO FO.kp bO .nil pass0 (pa_cons (pv 0) pa_nil)) (pe_and (pe_cmpR op_notIn_seq (pv 1) (pv 0) (by rfl)) (pe_one (pe_callB (cr_all rfl) (by rfl) mall (by decide +kernel) (pa_cons
      (pe_lc (own := [("other", 3)]) (g := gName 3) (tt := tYes) rfl nd (pi_ei (pv 0)) (blkOk_by (N := ["turn", "place", "many", "other"]) (sc := defScope sIsTurn) (by decide +kernel)) (fun _ _ _ _ _ => pg_name (i := 3) nd rfl (Or.inl rfl)) (fun _ _ _ _ _ => pts_nil)
        (fun _ _ _ _ _ => pe_cmpR op_le (pv 3) (pv 2) (nomark _))) pa_nil)))))), ?_⟩
    have hlot : Evl.Ev (tCall (spLot K) [] E0 (tCons (tVar 0) tNil)) (start ["turn", "place", "many", "other"] [v, .int p, .int m]) H (.bl (lotO r)) := Evl.ev_call (Evl.ea_cons (Evl.ev_var rfl) Evl.ea_nil) (spv_lot hD.lot)
    cases r with
    | none => exact Evl.s_ret (Evl.ev_andV (a := false) (b := false) hlot fun z => nomatch z) fun H1 e1 => q H1 e1
    | some ys =>
      cases hL : lotV ys with
      | false =>
        have hq : turnV p m (some ys) = false := by
          show (lotV ys && (!ys.contains (.int p)) && ys.all fun v => match v with | .int i => decide (i ≤ m) | _ => false) = false
          rw [hL]
          rfl
        rw [hq] at q
        have h2 : Evl.Ev (tCall (spLot K) [] E0 (tCons (tVar 0) tNil)) (start ["turn", "place", "many", "other"] [v, .int p, .int m]) H (.bl false) := Evl.ev_is hlot (congrArg V.bl hL)
        exact Evl.s_ret (Evl.ev_andV (a := false) (b := false) h2 fun z => nomatch z) fun H1 e1 => q H1 e1
      | true =>
        have h2 : Evl.Ev (tCall (spLot K) [] E0 (tCons (tVar 0) tNil)) (start ["turn", "place", "many", "other"] [v, .int p, .int m]) H (.bl true) := Evl.ev_is hlot (congrArg V.bl hL)
        obtain ⟨ns, rfl⟩ : ∃ ns : List Int, ys = ns.map V.int := all_ints (by
          unfold lotV at hL
          exact (Bool.and_eq_true_iff.mp hL).1)
        rw [turnV_ints, hL, Bool.true_and] at q
        obtain ⟨a, rfl, hs, hl⟩ : ∃ a, v = .ref a ∧ SqS K H a (ns.map V.int) ∧ ns.length ≤ 1000 := by
          cases hD with
          | seq h hl hi => exact ⟨_, rfl, h.s, by rwa [List.length_map] at hl⟩
        have h3 : Evl.Ev (tOp (rIn K true) (tVar 1) (tVar 0)) (start ["turn", "place", "many", "other"] [.ref a, .int p, .int m]) H (.bl (!decide (p ∈ ns))) := by
          rw [← in_ints]
          rcases hs with hs | hs
          · exact Evl.ev_op (Evl.ev_var rfl) (Evl.ev_var rfl) (Evl.rv_niL hs rfl (flat_ints ns))
          · exact Evl.ev_op (Evl.ev_var rfl) (Evl.ev_var rfl) (Evl.rv_niT hs rfl (flat_ints ns))
        refine Evl.s_ret (v := .bl (!decide (p ∈ ns) && ns.all fun i => decide (i ≤ m))) (Evl.ev_andV (a := true) (b := !decide (p ∈ ns) && ns.all fun i => decide (i ≤ m)) h2 fun _ => Evl.ev_andV (a := !decide (p ∈ ns)) (b := ns.all fun i => decide (i ≤ m)) h3 fun hb => ?_) fun H1 e1 => q H1 e1
        have e0 : (ns.map V.int).length = ns.length := List.length_map ..
        have hh := el_lcI (te := tOp (rI0 fun i j => V.bl (decide (i ≤ j))) (tVar 3) (tVar 2)) (t := tYes) (σ := start ["turn", "place", "many", "other"] [.ref a, .int p, .int m]) (H := H) (vs := [3]) (fun _ => true) (fun i => V.bl (decide (ns.getD i 0 ≤ m))) (ei_ei (K := K) (Evl.ev_var (i := 0) rfl) hs) (aims_at (j := 3)) (fun _ => rfl) (by omega) (fun _ _ _ _ => et_yes) fun i H4 e4 hi _ => by
          rw [e0] at hi
          exact Evl.ev_op (x := .int (ns.getD i 0)) (Evl.ev_is (Evl.ev_var rfl) (by rw [ints_getD hi])) (Evl.ev_var rfl) Evl.rv_I0
        rw [e0, given_all ns 0 fun i => V.bl (decide (i ≤ m))] at hh
        refine Evl.ev_is (ev_allN (bs := ns.map fun i => decide (i ≤ m)) ?_) ?_
        · rw [List.map_map]
          exact hh
        · rw [List.all_map]
          rfl
end
end P04
end S_Qj
section S_Ql
namespace P04
open PySem PySem.Spec PyProof.Rows L2 Tl Hk
/-- enumerate of a list or a tuple -/
def iEnB (K : PySem.W.Frag) (ta : TA) : TI := fun σ H R => iEnum K ta σ H R ∨ iEnumT K ta σ H R
theorem pi_enB {X : Cx} {e : Expr} {ta : TA} {p pos tpos : Pos} {elts : List Expr} {kk : Nat} (hg : Gl X "enumerate") (hm : X.mg "enumerate" = none) (ha : PA X [e] ta) (hs : starEach [e] X.env = [(false, eval e X.env)] := by rfl) :
    PI X (.Tuple elts kk tpos) (.Call (.Name "enumerate" p) [e] [] pos) (iEnB X.K ta) := ⟨fun pins s σ H R I h => h.elim (fun h => (pi_enum hg hm ha hs).run pins s σ H R I h) fun h => (pi_enumT hg hm ha hs).run pins s σ H R I h⟩
theorem ei_enB {K : PySem.W.Frag} {σ : L2.St} {H : Hp} {a : Addr} {xs : List V} {ta : TA} (h : Evl.EvA ta σ H [.ref a]) (hs : SqS K H a xs) : EvI (iEnB K ta) σ H xs.length (YPair (fun i => some (.int (i : Nat))) (fun i => xs[i]?)) := fun H1 e R k => hs.elim (fun hs => .inl (ei_enum h hs H1 e R k)) fun hs => .inr (ei_enumT h hs H1 e R k)
theorem ev_allRB {K : PySem.W.Frag} {ta : TE} {σ : L2.St} {H : Hp} {bs : List Bool} (h : EvNL ta σ H (Row2 (fun (b : Bool) v _ => v = .bl b) bs)) : Evl.Ev (tCB (rAll K) (tCons ta tNil)) σ H (.bl (bs.all id)) := fun H1 e Q q =>
  h H1 e _ fun p xs H2 hp e2 h2 hL => by
    obtain ⟨a1, a2⟩ := hL H2 (e.trans e2) fun _ _ _ _ h => h
    have ex : xs = bs.map V.bl := by
      refine List.ext_getElem (by rw [List.length_map, a1]) fun i h1 h3 => ?_
      rw [List.getElem_map]
      exact a2 i _ _ (List.getElem?_eq_getElem _) (List.getElem?_eq_getElem h1)
    subst ex
    exact ⟨p, bs, rfl, Evl.sq_of h2, q H2 e2⟩
theorem rows_all {m : Nat → Nat} {b : Nat → Nat → Bool} : ∀ n, (rows m (fun _ _ => true) b n).all id = (List.range n).all fun i => (List.range (m i)).all fun j => b i j
  | 0 => by simp [rows]
  | n + 1 => by
    rw [rows_succ, List.all_append, rows_all n, List.range_succ, List.all_append]
    congr 1
    unfold els
    rw [List.filter_eq_self.mpr (fun _ _ => rfl), List.all_map]
    simp
/-! ### whether rows are turns -/
def rowAt (rs : List (Option (List V))) (i : Nat) : List V := (rs.getD i none).getD []
def allTurn (rs : List (Option (List V))) : Bool := (List.range rs.length).all fun i => turnV ((i : Int) + 1) rs.length (rs.getD i none)
def symAt (rs : List (Option (List V))) (i : Nat) : V → Bool
  | .int o => (rowAt rs (o - 1).toNat).contains (.int ((i : Int) + 1))
  | _ => false
def symV (rs : List (Option (List V))) : Bool := (List.range rs.length).all fun i => (List.range (rowAt rs i).length).all fun j => symAt rs i ((rowAt rs i).getD j .non)
def areV : Option (List (Option (List V))) → Bool
  | none => false
  | some rs => decide (1 ≤ rs.length) && decide (rs.length ≤ 1000) && allTurn rs && symV rs
def spAreG (K : PySem.W.Frag) : Sp := fun vs H Q _ => ∃ (v : V) (r : Option (List (Option (List V)))), vs = [v] ∧ TurnsD K H v r ∧ ∀ H1, Evl.Ex H H1 → Q (.bl (areV r)) H1
theorem spv_areG {K : PySem.W.Frag} {H : Hp} {v : V} {r : Option (List (Option (List V)))} (h : TurnsD K H v r) : Evl.SpV (spAreG K) [v] H (.bl (areV r)) := fun H1 e Q q E => ⟨v, r, rfl, h.ex e, q⟩
/-- a row that is a turn -/
theorem turn_ints {p m : Int} {r : Option (List V)} (h : turnV p m r = true) : ∃ ns : List Int, r = some (ns.map V.int) ∧ ns.Nodup ∧ (∀ x ∈ ns, 1 ≤ x ∧ x ≤ m) ∧ p ∉ ns := by
  cases r with
  | none => cases h
  | some ys =>
    have hL : lotV ys = true := by
      have h' : (lotV ys && (!ys.contains (.int p)) && ys.all fun v => match v with | .int i => decide (i ≤ m) | _ => false) = true := h
      rw [Bool.and_eq_true_iff, Bool.and_eq_true_iff] at h'
      exact h'.1.1
    have hL2 := hL
    unfold lotV at hL2
    rw [Bool.and_eq_true_iff] at hL2
    obtain ⟨ns, rfl⟩ := all_ints hL2.1
    rw [turnV_ints, hL, Bool.true_and, Bool.and_eq_true_iff] at h
    refine ⟨ns, rfl, (nodup_int ns).mp (of_decide_eq_true hL2.2), fun x hx => ⟨?_, of_decide_eq_true (List.all_eq_true.mp h.2 x hx)⟩, fun z => ?_⟩
    · have := List.all_eq_true.mp hL2.1 (.int x) (List.mem_map.mpr ⟨x, hx, rfl⟩)
      have h1 : (decide ((1 : Int) ≤ x) && true) = true := this
      rw [Bool.and_true] at h1
      exact of_decide_eq_true h1
    · have := h.1
      rw [decide_eq_true z] at this
      cases this
theorem given_rng {n : Nat} {v : Nat → V} : Evl.given n (fun _ => true) v = (List.range n).map v := by
  unfold Evl.given
  rw [List.filter_eq_self.mpr (fun _ _ => rfl)]
theorem rows_sum {β : Type} {m : Nat → Nat} {b : Nat → Nat → β} : ∀ n, (rows m (fun _ _ => true) b n).length = ((List.range n).map m).sum
  | 0 => by simp [rows]
  | n + 1 => by
    rw [rows_succ, List.length_append, rows_sum n, List.range_succ, List.map_append, List.sum_append]
    congr 1
    unfold els
    rw [List.filter_eq_self.mpr (fun _ _ => rfl)]
    simp
theorem rows_bound {β : Type} {b : Nat → Nat → β} (rs : List (Option (List V))) : (rows (fun i => (rowAt rs i).length) (fun _ _ => true) b rs.length).length = (rs.map fun r => (r.getD []).length).sum := by
  rw [rows_sum]
  congr 1
  refine List.ext_getElem (by simp) fun i h1 h2 => ?_
  have hi : i < rs.length := by simpa using h1
  rw [List.getElem_map, List.getElem_map, List.getElem_range]
  unfold rowAt
  rw [List.getD_eq_getElem?_getD, List.getElem?_eq_getElem hi]
  rfl
section
variable {P : Program} {w : World} {K : PySem.W.Frag} {mg : Str → Option Value} {base : Heap}
set_option maxHeartbeats 1000000 in
theorem ok_areG {f fW fL fI : Addr} {fd fdW fdL fdI : FuncData} {k : Nat} (F : Fun K "_are_turns" "_are_turns" sAreTurns f fd)
    (FW : Fun K "is_within" "is_within" sWithin fW fdW) (GW : FnOk P w K mg base CX0 k fW fdW ["value", "least", "most"] (spWithin K)) (bW : Binds K fdW ["value", "least", "most"] []) (gW : mg "is_within" = some (.ref fW))
    (FL : Fun K "is_list" "is_list" sList fL fdL) (GL : FnOk P w K mg base CX0 k fL fdL ["value"] (spList K)) (bL : Binds K fdL ["value"] []) (gL : mg "is_list" = some (.ref fL))
    (FI : Fun K "_is_turn" "_is_turn" sIsTurn fI fdI) (GI : FnOk P w K mg base CX0 k fI fdI ["turn", "place", "many"] (spIsTurnG K)) (bI : Binds K fdI ["turn", "place", "many"] []) (gI : mg "_is_turn" = some (.ref fI))
    {tM : Tok} (gM : mg "MOST_PLACES" = some (.int 1000 tM)) (mall : mg "all" = none) (mlen : mg "len" = none) (menum : mg "enumerate" = none) :
    FnOk P w K mg base CX0 (k + 1) f fd ["turns"] (spAreG K) := by
  refine F.ok scAre (fun vs H Q E h => ?_) (fun cdv A outer s H vs Q E hr h => ?_)
  · obtain ⟨v, r, rfl, _⟩ := h
    rfl
  · obtain ⟨v, r, rfl, hD, q⟩ := h
    have nd := scAre.nd
    refine ⟨_, pss_cons (ps_if (PW.pt (pw_or (pt_not (pt_val (pe_call GL hr (by rfl) gL FL.kp bL .nil pass0 (pa_cons (pv 0) pa_nil)))) (pw_or1 (pt_not (pt_val (pe_call GW hr (by rfl) gW FW.kp bW .nil pass0
          (pa_cons (pe_callB call_len_seq (by rfl) mlen PySem.boot_len (pa_cons (pv 0) pa_nil)) (pa_cons pe_int (pa_cons (pe_glob (v := .int 1000) (by rfl) gM ⟨_, rfl⟩) pa_nil))))))))) (pss_one (ps_ret pe_bl)) pss_nil)
      (pss_cons (ps_set (i := 1) nd rfl (.inr rfl) (pe_callB call_len_seq (by rfl) mlen PySem.boot_len (pa_cons (pv 0) pa_nil)))
      (pss_cons (ps_if (pt_not (pt_val (pe_callB (cr_all rfl) (by rfl) mall (by decide +kernel) (pa_cons
          (pe_lc (own := [("at", 2), ("turn", 3)]) (g := gTup K 2 (gCons (gName 2) (gCons (gName 3) gNil))) (tt := tYes) rfl nd (pi_enB (by rfl) menum (pa_cons (pv 0) pa_nil)) (blkOk_by (N := ["turns", "many", "at", "turn", "tied", "other"]) (sc := defScope sAreTurns) (by decide +kernel))
            (fun _ _ _ _ _ => pg_tup (by rfl) (pgs_cons (pg_name (i := 2) nd rfl (Or.inl rfl)) (pgs_cons (pg_name (i := 3) nd rfl (Or.inl rfl)) pgs_nil))) (fun _ _ _ _ _ => pts_nil)
            (fun _ _ _ _ _ => pe_call GI hr (by rfl) gI FI.kp bI .nil pass0 (pa_cons (pv 3) (pa_cons (pe_op op_add (pv 2) pe_int) (pa_cons (pv 1) pa_nil))))) pa_nil)))) (pss_one (ps_ret pe_bl)) pss_nil)
      (pss_cons (ps_set (i := 4) nd rfl (.inr rfl) (pe_lc (own := [("turn", 3)]) (g := gName 3) (tt := tYes) rfl nd (pi_ei (pv 0)) (blkOk_by (N := ["turns", "many", "at", "turn", "tied", "other"]) (sc := defScope sAreTurns) (by decide +kernel))
            (fun _ _ _ _ _ => pg_name (i := 3) nd rfl (Or.inl rfl)) (fun _ _ _ _ _ => pts_nil)
            (fun _ _ _ _ _ => pe_dc (own := [("other", 5)]) (wi := iEi K (tVar 3)) (g := gName 5) (tt := tYes) rfl nd (pi_ei (pv 3)) (blkOk_by (N := ["turns", "many", "at", "turn", "tied", "other"]) (sc := { kind := .function, names := [(".0", .local), ("turn", .local)], isGenerator := false, isCoroutine := false }) (by decide +kernel))
              (fun _ _ _ _ _ => pg_name (i := 5) nd rfl (Or.inl rfl)) (fun _ _ _ _ _ => pts_nil) (fun _ _ _ _ _ => pv 5) (fun _ _ _ _ _ => pe_bl))))
      (pss_one (ps_ret (pe_callB (cr_all rfl) (by rfl) mall (by decide +kernel) (pa_cons
          (pe_lc2 (own := [("at", 2), ("turn", 3), ("other", 5)]) (vs1 := [5]) (wi1 := iEi K (tVar 3)) (g := gTup K 2 (gCons (gName 2) (gCons (gName 3) gNil))) (g1 := gName 5) (tt := tYes) (tt1 := tYes) rfl nd (pi_enB (by rfl) menum (pa_cons (pv 0) pa_nil)) (blkOk_by (N := ["turns", "many", "at", "turn", "tied", "other"]) (sc := defScope sAreTurns) (by decide +kernel)) (by decide)
            (fun _ _ _ _ _ => pg_tup (by rfl) (pgs_cons (pg_name (i := 2) nd rfl (Or.inl rfl)) (pgs_cons (pg_name (i := 3) nd rfl (Or.inl rfl)) pgs_nil))) (fun _ _ _ _ _ => pts_nil)
            (fun _ _ _ _ _ => pi_ei (pv 3)) (fun _ _ _ _ _ => pg_name (i := 5) nd rfl (Or.inl rfl)) (fun _ _ _ _ _ => pts_nil)
            (fun _ _ _ _ _ => pe_cmp (pc_din (hu_of hr) (pe_op op_add (pv 2) pe_int) (pe_ix (r := rIxL K) ix_list (pv 4) (pe_op op_sub (pv 5) pe_int) (fun _ _ => rfl))) rfl)) pa_nil))))))), ?_⟩
    cases hD with
    | no h h1 h2 =>
      exact Evl.q_when (b := true) (Evl.et_or (a := true) (b := true) (Evl.et_is (Evl.et_not (Evl.et_B (Evl.ev_call (Evl.ea_cons (Evl.ev_var rfl) Evl.ea_nil) (spv_list h)))) (by simp [h1, h2])) fun z => nomatch z) (fun _ H1 e1 => Evl.s_ret Evl.ev_c fun H2 e2 => q H2 (e1.trans e2)) fun z => nomatch z
    | @seq a xs rs hs0 hn hl hi hz =>
      have hs : SqS K H a xs := hs0.s
      have isl : Evl.Ev (tCall (spList K) [] E0 (tCons (tVar 0) tNil)) (start ["turns", "many", "at", "turn", "tied", "other"] [.ref a]) H (.bl true) := by
        rcases hs with hs | hs
        · exact Evl.ev_call (Evl.ea_cons (Evl.ev_var rfl) Evl.ea_nil) (spv_list (.lst hs))
        · exact Evl.ev_call (Evl.ea_cons (Evl.ev_var rfl) Evl.ea_nil) (spv_list (.tup hs))
      have hw : wi (.int (xs.length : Int)) (.int 1) (.int 1000) = (decide (1 ≤ rs.length) && decide (rs.length ≤ 1000)) := by
        show (decide ((1 : Int) ≤ (xs.length : Int)) && decide ((xs.length : Int) ≤ 1000)) = _
        rw [hn]
        congr 1
        · exact decide_eq_decide.mpr (by omega)
        · exact decide_eq_decide.mpr (by omega)
      refine Evl.q_when (b := !(decide (1 ≤ rs.length) && decide (rs.length ≤ 1000))) (Evl.et_is (Evl.et_or (a := false) (b := !wi (.int (xs.length : Int)) (.int 1) (.int 1000)) (Evl.et_is (Evl.et_not (Evl.et_B isl)) rfl) fun _ =>
        Evl.et_not (Evl.et_B (Evl.ev_call (Evl.ea_cons (ev_lenB (Evl.ev_var rfl) hs) (Evl.ea_cons Evl.ev_c (Evl.ea_cons Evl.ev_c Evl.ea_nil))) (spv_within (.int _) True.intro True.intro)))) (by rw [hw, Bool.false_or])) (fun hb H1 e1 => ?_) fun hb H1 e1 => ?_
      · have hq : areV (some rs) = false := by
          show (decide (1 ≤ rs.length) && decide (rs.length ≤ 1000) && allTurn rs && symV rs) = false
          rw [Bool.not_eq_true'] at hb
          rw [hb]
          rfl
        rw [hq] at q
        exact Evl.s_ret Evl.ev_c fun H2 e2 => q H2 (e1.trans e2)
      rw [Bool.not_eq_false'] at hb
      refine Evl.q_asg (ev_lenB (Evl.ev_var rfl) (hs.ex e1)) fun H2 e2 => ?_
      have e02 := e1.trans e2
      have getR : ∀ i, i < rs.length → rs[i]? = some (rs.getD i none) := fun i hi => by rw [List.getD_eq_getElem?_getD, List.getElem?_eq_getElem hi]; rfl
      have getX : ∀ i, i < xs.length → xs[i]? = some (xs.getD i .non) := fun i hi => by rw [List.getD_eq_getElem?_getD, List.getElem?_eq_getElem hi]; rfl
      have hall := el_lcI (te := tCall (spIsTurnG K) [] E0 (tCons (tVar 3) (tCons (tOp (rI0 fun i j => V.int (i + j)) (tVar 2) (tC (.int 1))) (tCons (tVar 1) tNil)))) (t := tYes) (σ := [some (.ref a), some (.int (xs.length : Int)), none, none, none, none]) (H := H2) (vs := [2, 3]) (fun _ => true) (fun i => V.bl (turnV ((i : Int) + 1) xs.length (rs.getD i none)))
        (ei_enB (K := K) (Evl.ea_cons (Evl.ev_var (i := 0) rfl) Evl.ea_nil) (hs.ex e02)) (aims_enum (K := K) (j1 := 2) (j2 := 3)) (fun _ => rfl) (by omega) (fun _ _ _ _ => et_yes) fun i H4 e4 hi' _ =>
          Evl.ev_call (Evl.ea_cons (x := xs.getD i .non) (Evl.ev_var rfl) (Evl.ea_cons (Evl.ev_op (Evl.ev_var rfl) Evl.ev_c Evl.rv_I0) (Evl.ea_cons (Evl.ev_var rfl) Evl.ea_nil))) (spv_isTurnG ((hi i _ _ (getX i hi') (getR i (by omega))).ex (e02.trans e4)))
      rw [given_rng] at hall
      refine Evl.q_when (b := !allTurn rs) (Evl.et_is (Evl.et_not (Evl.et_B (ev_allN (bs := (List.range xs.length).map fun i : Nat => turnV ((i : Int) + 1) xs.length (rs.getD i none)) (by rw [List.map_map]; exact hall)))) (by
        unfold allTurn
        rw [List.all_map, hn]
        rfl)) (fun hb2 H3 e3 => ?_) fun hb2 H3 e3 => ?_
      · have hq : areV (some rs) = false := by
          show (decide (1 ≤ rs.length) && decide (rs.length ≤ 1000) && allTurn rs && symV rs) = false
          rw [Bool.not_eq_true'] at hb2
          rw [hb2, Bool.and_false]
          rfl
        rw [hq] at q
        exact Evl.s_ret Evl.ev_c fun H4 e4 => q H4 ((e02.trans e3).trans e4)
      rw [Bool.not_eq_false'] at hb2
      have hq : areV (some rs) = symV rs := by
        show (decide (1 ≤ rs.length) && decide (rs.length ≤ 1000) && allTurn rs && symV rs) = symV rs
        rw [hb2, hb]
        rfl
      rw [hq] at q
      have item : ∀ i, i < xs.length → ∃ (ai : Addr) (ns : List Int), xs.getD i .non = .ref ai ∧ rs.getD i none = some (ns.map V.int) ∧ SqS K H ai (ns.map V.int) ∧ ns.length ≤ 1000 ∧ (∀ x ∈ ns, 1 ≤ x ∧ x ≤ (rs.length : Int)) := fun i hi' => by
        have h1 := List.all_eq_true.mp hb2 i (List.mem_range.mpr (by omega))
        obtain ⟨ns, e, n1, n2, n3⟩ := turn_ints h1
        have hd := hi i _ _ (getX i hi') (getR i (by omega))
        rw [e] at hd
        generalize xs.getD i .non = xv at hd
        cases hd with
        | seq h hl' _ => exact ⟨_, ns, rfl, e, h.s, by rw [List.length_map] at hl'; exact hl', n2⟩
      have e03 := e02.trans e3
      refine q_asgNL (L := Holds (fun i v H' => ∃ (ns : List Int) (d : Addr), rs.getD i none = some (ns.map V.int) ∧ v = .ref d ∧ H' d = some (.dK (dOf (fun j => ns.getD j 0) ns.length))) xs.length) (en_lc (ei_ei (K := K) (Evl.ev_var (i := 0) rfl) (hs.ex e03)) (aims_at (j := 3)) (fun _ => rfl) (by omega) _ fun i hi' => ?_) fun p ds H4 hp e4 h4 hL4 => ?_
      · obtain ⟨ai, ns, a1, a2, a3, a4, a5⟩ := item i hi'
        have e0 : (ns.map V.int).length = ns.length := List.length_map ..
        refine fun H5 e5 Q q => en_dc (kf := fun j => ns.getD j 0) (n := (ns.map V.int).length) (ei_ei (K := K) (Evl.ev_is (Evl.ev_var rfl) a1) (a3.ex e03)) aims_at (fun _ => rfl) (by omega) (fun j hj => Evl.ev_is (Evl.ev_var rfl) (ints_getD (by omega))) (fun j hj => Evl.ev_c) H5 e5 Q fun v H6 e6 hv => q v H6 e6 fun H7 e7 s7 => ?_
        obtain ⟨d, rfl, hd⟩ := hv H7 e7 s7
        exact ⟨ns, d, a2, rfl, by rw [← e0]; exact hd⟩
      have e04 := e03.trans e4
      obtain ⟨l4, h4at⟩ := hL4
      have hbnd : (rows (fun i => (rowAt rs i).length) (fun _ _ => true) (fun i j => symAt rs i ((rowAt rs i).getD j .non)) xs.length).length ≤ 90000 := by
        rw [hn, rows_bound]
        omega
      have fin : Evl.Ev (tCB (rAll K) (tCons (tLc2 (iEnB K (tCons (tVar 0) tNil)) (gTup K 2 (gCons (gName 2) (gCons (gName 3) gNil))) tYes (iEi K (tVar 3)) (gName 5) tYes (tDIn (tOp (rI0 fun i j => V.int (i + j)) (tVar 2) (tC (.int 1))) (tOp (rIxL K) (tVar 4) (tOp (rI0 fun i j => V.int (i - j)) (tVar 5) (tC (.int 1))))) [2, 3, 5] [5]) tNil)) [some (.ref a), some (.int (xs.length : Int)), none, none, some (.ref p), none] H4
          (.bl ((rows (fun i => (rowAt rs i).length) (fun _ _ => true) (fun i j => symAt rs i ((rowAt rs i).getD j .non)) xs.length).all id)) := by
        refine ev_allRB ?_
        refine en_lc2 (Y1 := fun i => YAt (rowAt rs i)) (s1 := fun i j σ => σ.set 5 (some ((rowAt rs i).getD j .non))) (ei_enB (K := K) (Evl.ea_cons (Evl.ev_var rfl) Evl.ea_nil) (hs.ex e04)) (aims_enum (K := K) (j1 := 2) (j2 := 3)) (fun _ => rfl) (fun i hi' => ?_) (fun i => aims_at) (fun i j => rfl) _ _ _ (fun i j hi' hj => et_yes) (fun i j hi' hj _ => en_v ?_) hbnd
        · obtain ⟨ai, ns, a1, a2, a3, a4, a5⟩ := item i hi'
          have er : rowAt rs i = ns.map V.int := by
            unfold rowAt
            rw [a2]
            rfl
          rw [er]
          exact ei_ei (K := K) (Evl.ev_is (Evl.ev_var rfl) a1) (a3.ex e04)
        · obtain ⟨ai, ns, a1, a2, a3, a4, a5⟩ := item i hi'
          have er : rowAt rs i = ns.map V.int := by
            unfold rowAt
            rw [a2]
            rfl
          rw [er, List.length_map] at hj
          have eo : (rowAt rs i).getD j .non = .int ns[j] := by
            rw [er, ints_getD hj, List.getD_eq_getElem?_getD, List.getElem?_eq_getElem hj]
            rfl
          have hb' := a5 _ (List.getElem_mem hj)
          have hx : (ns[j] - 1).toNat < ds.length := by rw [l4]; omega
          obtain ⟨ms, d, k1, k2, k3⟩ := h4at _ _ (List.getElem?_eq_getElem hx)
          have em : rowAt rs (ns[j] - 1).toNat = ms.map V.int := by
            unfold rowAt
            rw [k1]
            rfl
          have es : symAt rs i ((rowAt rs i).getD j .non) = (valV (dOf (fun j => ms.getD j 0) ms.length) (.inl ((i : Int) + 1))).isSome := by
            rw [eo]
            show (rowAt rs (ns[j] - 1).toNat).contains (.int ((i : Int) + 1)) = _
            rw [em, contains_int]
            refine Bool.eq_iff_iff.mpr ?_
            rw [decide_eq_true_iff, dOf_at]
            constructor
            · intro hm
              obtain ⟨j2, hj2, e2⟩ := List.mem_iff_getElem.mp hm
              exact ⟨j2, hj2, by rw [List.getD_eq_getElem?_getD, List.getElem?_eq_getElem hj2, ← e2]; rfl⟩
            · rintro ⟨j2, hj2, e2⟩
              rw [← e2, List.getD_eq_getElem?_getD, List.getElem?_eq_getElem hj2]
              exact List.getElem_mem hj2
          refine Evl.ev_is (ev_din (d := d) (Evl.ev_op (Evl.ev_var rfl) Evl.ev_c Evl.rv_I0) (Evl.ev_op (Evl.ev_var rfl) (Evl.ev_op (x := .int ns[j]) (Evl.ev_is (Evl.ev_var rfl) eo) Evl.ev_c Evl.rv_I0) (Evl.rv_ixL (Evl.sq_of h4) ?_)) k3) (by rw [es])
          have en : ns[j] - 1 = ((ns[j] - 1).toNat : Int) := by omega
          rw [en]
          exact atI_nat (by rw [← k2]; exact List.getElem?_eq_getElem hx)
      have hsym : ((List.range xs.length).all fun i => (List.range (rowAt rs i).length).all fun j => symAt rs i ((rowAt rs i).getD j .non)) = symV rs := by
        unfold symV
        rw [hn]
      rw [rows_all, hsym] at fin
      exact Evl.s_ret fin fun H5 e5 => q H5 (e04.trans e5)
end
end P04
end S_Ql
section S_Qm
namespace P04
open PySem PySem.Spec PyProof.Rows L2 Tl Hk
/-- lists or tuples of lists or tuples of ints -/
def RowsAt (H : Hp) (a : Addr) (ts : List (List Int)) : Prop := ∃ xs, SqP H a xs ∧ xs.length = ts.length ∧ ∀ (i : Nat) (ns : List Int), ts[i]? = some ns → ∃ ai, xs[i]? = some (.ref ai) ∧ SqP H ai (ns.map V.int)
theorem RowsAt.ex {H H' : Hp} {a : Addr} {ts : List (List Int)} (h : RowsAt H a ts) (e : Evl.Ex H H') : RowsAt H' a ts := by
  obtain ⟨xs, h1, h2, h3⟩ := h
  exact ⟨xs, h1.ex e, h2, fun i ns hn => (h3 i ns hn).imp fun ai ⟨p, q⟩ => ⟨p, q.ex e⟩⟩
/-- rows as values -/
def valsOf (ts : List (List Int)) : List (Option (List V)) := ts.map fun ns => some (ns.map V.int)
theorem valsOf_at {ts : List (List Int)} {i : Nat} {ns : List Int} (h : ts[i]? = some ns) : (valsOf ts).getD i none = some (ns.map V.int) := by
  unfold valsOf
  rw [List.getD_eq_getElem?_getD, List.getElem?_map, h]
  rfl
theorem vals_ex : ∀ {rs : List (Option (List V))}, (∀ r ∈ rs, ∃ ns : List Int, r = some (ns.map V.int)) → ∃ ts : List (List Int), rs = valsOf ts
  | [], _ => ⟨[], rfl⟩
  | r :: rs, h => by
    obtain ⟨ns, rfl⟩ := h r List.mem_cons_self
    obtain ⟨ts, rfl⟩ := vals_ex (rs := rs) fun x hx => h x (List.mem_cons_of_mem _ hx)
    exact ⟨ns :: ts, rfl⟩
/-- what is let is turns -/
theorem are_yes {K : PySem.W.Frag} {H : Hp} {v : V} {r : Option (List (Option (List V)))} (h : TurnsD K H v r) (hr : areV r = true) : ∃ a ts, v = .ref a ∧ r = some (valsOf ts) ∧ OkT ts ∧ RowsAt H a ts := by
  cases h with
  | no _ _ _ => cases hr
  | @seq a xs rs hs hn hl hi hz =>
    have h' : (decide (1 ≤ rs.length) && decide (rs.length ≤ 1000) && allTurn rs && symV rs) = true := hr
    rw [Bool.and_eq_true_iff, Bool.and_eq_true_iff, Bool.and_eq_true_iff] at h'
    obtain ⟨⟨⟨h1, h2⟩, h3⟩, h4⟩ := h'
    have h1 := of_decide_eq_true h1
    have h2 := of_decide_eq_true h2
    have row : ∀ i, i < rs.length → ∃ ns : List Int, rs.getD i none = some (ns.map V.int) ∧ ns.Nodup ∧ (∀ x ∈ ns, 1 ≤ x ∧ x ≤ (rs.length : Int)) ∧ ((i : Int) + 1) ∉ ns := fun i hi' => turn_ints (List.all_eq_true.mp h3 i (List.mem_range.mpr hi'))
    obtain ⟨ts, hts⟩ : ∃ ts : List (List Int), rs = valsOf ts := by
      have all : ∀ r ∈ rs, ∃ ns : List Int, r = some (ns.map V.int) := fun r hr' => by
        obtain ⟨i, hi', rfl⟩ := List.mem_iff_getElem.mp hr'
        obtain ⟨ns, e, _⟩ := row i hi'
        rw [List.getD_eq_getElem?_getD, List.getElem?_eq_getElem hi'] at e
        exact ⟨ns, e⟩
      exact vals_ex all
    subst hts
    have hlen : (valsOf ts).length = ts.length := List.length_map ..
    have inj : ∀ {a b : List Int}, (some (a.map V.int) : Option (List V)) = some (b.map V.int) → a = b := fun {a b} e => by
      have := Option.some.inj e
      exact (List.map_inj_right fun x y z => V.int.inj z).mp this
    have hrow : ∀ (i : Nat) (ns : List Int), ts[i]? = some ns → ns.Nodup ∧ (∀ x ∈ ns, 1 ≤ x ∧ x ≤ (ts.length : Int)) ∧ ((i : Int) + 1) ∉ ns := fun i ns hns => by
      have hi' := (List.getElem?_eq_some_iff.mp hns).1
      obtain ⟨ms, e, n1, n2, n3⟩ := row i (by omega)
      rw [valsOf_at hns] at e
      obtain rfl := inj e
      rw [hlen] at n2
      exact ⟨n1, n2, n3⟩
    refine ⟨a, ts, rfl, rfl, ⟨by omega, by omega, hrow, fun i ns o hns ho => ?_, ?_⟩, xs, hs, by omega, fun i ns hns => ?_⟩
    · have hi' := (List.getElem?_eq_some_iff.mp hns).1
      have hb := (hrow i ns hns).2.1 o ho
      have ho2 : (o - 1).toNat < ts.length := by omega
      refine ⟨_, List.getElem?_eq_getElem ho2, ?_⟩
      have s1 := List.all_eq_true.mp h4 i (List.mem_range.mpr (by omega))
      have er : rowAt (valsOf ts) i = ns.map V.int := by
        unfold rowAt
        rw [valsOf_at hns]
        rfl
      rw [er, List.length_map] at s1
      obtain ⟨j, hj, ej⟩ := List.mem_iff_getElem.mp ho
      have s2 := List.all_eq_true.mp s1 j (List.mem_range.mpr hj)
      have eo : (ns.map V.int).getD j .non = .int o := by
        rw [ints_getD hj, List.getD_eq_getElem?_getD, List.getElem?_eq_getElem hj, ← ej]
        rfl
      rw [eo] at s2
      have s3 : (rowAt (valsOf ts) (o - 1).toNat).contains (.int ((i : Int) + 1)) = true := s2
      have er2 : rowAt (valsOf ts) (o - 1).toNat = (ts[(o - 1).toNat]).map V.int := by
        unfold rowAt
        rw [valsOf_at (List.getElem?_eq_getElem ho2)]
        rfl
      rw [er2, contains_int] at s3
      exact of_decide_eq_true s3
    · have : (ts.map List.length) = (valsOf ts).map fun r => (r.getD []).length := by
        unfold valsOf
        rw [List.map_map]
        exact List.map_congr_left fun ns _ => (List.length_map ..).symm
      rw [this]
      exact hz
    · have hi' := (List.getElem?_eq_some_iff.mp hns).1
      have hx : xs[i]? = some (xs.getD i .non) := by rw [List.getD_eq_getElem?_getD, List.getElem?_eq_getElem (by omega)]; rfl
      have hd := hi i _ _ hx (show (valsOf ts)[i]? = some (some (ns.map V.int)) by unfold valsOf; rw [List.getElem?_map, hns]; rfl)
      generalize xs.getD i .non = xv at hd hx
      cases hd with
      | seq h _ _ => exact ⟨_, hx, h⟩
end P04
end S_Qm
section S_Qn
namespace P04
open PySem PySem.Spec PyProof.Rows L2 Tl Hk LamX
section
open Evl
variable {K : PySem.W.Frag} {σ : L2.St} {H B : Hp}
theorem en_tupP {ta : TE} {a : Addr} {xs : List V} (h : Ev ta σ H (.ref a)) (hs : SqP H a xs) : EvN (tCB (rTup K) (tCons ta tNil)) σ H (fun u H' => ∃ t, u = .ref t ∧ H' t = some (.tup xs)) := fun H1 e Q q =>
  h H1 e _ fun H2 e2 => hs.elim (fun hs => ⟨a, xs, rfl, .inl ⟨sq_of ((e.trans e2) _ _ hs), fun t ht => q _ _ (e2.trans (Ex.new ht)) fun H3 _ s3 => ⟨t, rfl, s3 _ _ (fresh_back e2 ht) upd_same⟩⟩⟩)
    fun hs => ⟨a, xs, rfl, .inr ⟨st_of ((e.trans e2) _ _ hs), q _ _ e2 fun H3 h3 _ => ⟨a, rfl, h3 _ _ hs⟩⟩⟩
theorem en_tuplesP {i j : Nat} {l : Addr} {ts : List (List Int)} (hs2 : σ[i]? = some (some (.ref l))) (hw : ∀ x, wipe ((wipe σ [j]).set j (some x)) [j] = wipe σ [j]) (hj : ∀ x, ((wipe σ [j]).set j (some x))[j]? = some (some x))
    (hL : RowsAt B l ts) (hz : ts.length ≤ 40000) : EvN (tCB (rTup K) (tCons (tLc (iEi K (tVar i)) (gName j) tYes (tCB (rTup K) (tCons (tVar j) tNil)) [j]) tNil)) σ B (fun u H' => ∃ t, u = .ref t ∧ TT H' t ts) := by
  obtain ⟨xs, hl, ha, hrow⟩ := hL
  have h1 : EvN (tCB (rTup K) (tCons (tLc (iEi K (tVar i)) (gName j) tYes (tCB (rTup K) (tCons (tVar j) tNil)) [j]) tNil)) σ B (fun u H' => ∃ t xs2, u = .ref t ∧ H' t = some (.tup xs2) ∧ Holds (fun i v H' => ∃ ns, ts[i]? = some ns ∧ ∃ a, v = .ref a ∧ H' a = some (.tup (ns.map V.int))) xs.length xs2 H') := by
    refine en_tupNL (en_lc (ei_ei (K := K) (Evl.ev_var hs2) hl.s) aims_at (fun _ => hw _) (by omega) _ fun k hk => ?_)
    have hk2 : k < ts.length := by omega
    obtain ⟨a, h1, h2⟩ := hrow k _ (List.getElem?_eq_getElem hk2)
    have ex : xs.getD k .non = .ref a := by rw [List.getD_eq_getElem?_getD, h1]; rfl
    exact fun H5 e5 Q q => en_tupP (K := K) (Evl.ev_is (Evl.ev_var (hj _)) ex) h2 H5 e5 Q fun v H6 e6 hv => q v H6 e6 fun H7 e7 s7 => ⟨_, List.getElem?_eq_getElem hk2, hv H7 e7 s7⟩
  exact fun H5 e5 Q q => h1 H5 e5 Q fun v H6 e6 hv => q v H6 e6 fun H7 e7 s7 => by
    obtain ⟨t, xs2, rfl, k1, k2, k3⟩ := hv H7 e7 s7
    have hex : ∃ bs : List Addr, xs2 = bs.map V.ref := by
      have : ∀ v ∈ xs2, ∃ a, v = V.ref a := fun v hv => by
        obtain ⟨i, hi, rfl⟩ := List.mem_iff_getElem.mp hv
        obtain ⟨_, _, a, h, _⟩ := k3 i _ (List.getElem?_eq_getElem hi)
        exact ⟨a, h⟩
      clear k1 k2 k3 hv
      induction xs2 with
      | nil => exact ⟨[], rfl⟩
      | cons v r ih =>
        obtain ⟨a, rfl⟩ := this v List.mem_cons_self
        obtain ⟨bs, rfl⟩ := ih fun u hu => this u (List.mem_cons_of_mem _ hu)
        exact ⟨a :: bs, rfl⟩
    obtain ⟨bs, rfl⟩ := hex
    refine ⟨t, rfl, bs, k1, by rw [List.length_map] at k2; omega, fun i a ns h1 h2 => ?_⟩
    obtain ⟨ns2, h3, b, h4, h5⟩ := k3 i (.ref a) (by rw [List.getElem?_map, h1]; rfl)
    rw [h2] at h3
    cases h3
    cases h4
    exact h5
end
abbrev Rz (C : Addr) (H : Hp) (E : XK) (part : Str) : Prop := ∀ H1 d, Evl.Ex H H1 → H1 d = none → E (.ref C) (some d) (upd H1 d (.xd [(("part" : Str), .str part)]))
def spWebG (K : PySem.W.Frag) (C CE : Addr) : Sp := fun vs H Q E => ∃ (x dx : Addr) (v : V) (r : Option (List (Option (List V)))) (B : Hp), vs = [.ref x, v] ∧ H x = some (.ins C dx []) ∧ Evl.Ex B H ∧ B x = none ∧ TurnsD K B v r ∧ (areV r = false → Rz CE H E "turns") ∧
  (∀ ts, r = some (valsOf ts) → OkT ts → ∀ H', Evl.Ex (less H x) H' → (∀ H3, Evl.Ex B H3 → Since H H' H3 → H3 x = H' x → WebAt C H3 x ts) → Q .non H')
section
variable {P : Program} {w : World} {K : PySem.W.Frag} {mg : Str → Option Value} {base : Heap}
set_option maxHeartbeats 2000000 in
theorem ok_webG {qI : Str} {C CE f fA fT fE : Addr} {fd fdA fdT : FuncData} {k : Nat} (F : Fun K "__init__" "Web.__init__" sWebI f fd) (T : TWeb K mg C)
    (FA : Fun K "_are_turns" "_are_turns" sAreTurns fA fdA) (GA : FnOk P w K mg base CX0 (k + 2) fA fdA ["turns"] (spAreG K)) (bA : Binds K fdA ["turns"] []) (gA : mg "_are_turns" = some (.ref fA))
    (FT : Fun K "_ties_of" "_ties_of" sTies fT fdT) (GT : FnOk P w K mg base CX0 (k + 2) fT fdT ["turns"] spTies) (bT : Binds K fdT ["turns"] []) (gT : mg "_ties_of" = some (.ref fT))
    (TP : PySem.PartX.PartTxt K mg "BadWeb" qI CE fE) (mtup : mg "tuple" = none) (mlen : mg "len" = none) :
    FnOk P w K mg base (L2.CX P w) (k + 3) f fd ["self", "turns"] (spWebG K C CE) := by
  refine F.okX scWebI (fun vs H Q E h => ?_) (fun cdv A outer s H vs Q E hr h => ?_)
  · obtain ⟨x, dx, v, r, B, rfl, _⟩ := h
    rfl
  · obtain ⟨x, dx, v, r, B, rfl, hx, b0, n0, hD, hno, hyes⟩ := h
    have nd := scWebI.nd
    refine ⟨_, pss_cons (ps_if (pt_not (pt_val (pe_call GA hr (by rfl) gA FA.kp bA .nil pass0 (pa_cons (pv 1) pa_nil)))) (pss_one (ps_raisePart rfl TP (k := k + 2) hr (takes_of rfl rfl rfl rfl) (pa_cons pe_str pa_nil) (by rfl) (by decide))) pss_nil)
      (PSs.nox 
      (pss_cons (ps_fld (pv 0) (pe_callTy call_tuple_of (by rfl) mtup (by decide +kernel) (pa_cons
          (pe_lc (own := [("turn", 2)]) (g := gName 2) (tt := tYes) (te := tCB (rTup K) (tCons (tVar 2) tNil)) rfl nd (pi_ei (pv 1)) (blkOk_by (N := ["self", "turns", "turn"]) (sc := defScope sWebI) (by decide +kernel)) (fun _ _ _ _ _ => pg_name (i := 2) nd rfl (Or.inl rfl)) (fun _ _ _ _ _ => pts_nil)
            (fun _ _ _ _ _ => pe_callTy call_tuple_of (by rfl) mtup (by decide +kernel) (pa_cons (pv 2) pa_nil))) pa_nil)) rfl)
      (pss_cons (ps_fld (pv 0) (pe_callB call_len_seq (by rfl) mlen PySem.boot_len (pa_cons (pe_fld (pv 0) rfl) pa_nil)) rfl)
      (pss_one (ps_fld (pv 0) (pe_call GT hr (by rfl) gT FT.kp bT .nil pass0 (pa_cons (pe_fld (pv 0) rfl) pa_nil)) rfl))))), ?_⟩
    refine Evl.q_when (b := !areV r) (Evl.et_not (Evl.et_B (Evl.ev_call (Evl.ea_cons (Evl.ev_var rfl) Evl.ea_nil) (spv_areG (hD.ex b0))))) (fun hb H1 e1 => ?_) fun hb H1 e1 => ?_
    · rw [Bool.not_eq_true'] at hb
      exact ⟨.str "turns", rfl, fun d hd => hno hb H1 d e1 hd⟩
    rw [Bool.not_eq_false'] at hb
    obtain ⟨l, ts, rfl, er, hT, hL⟩ := are_yes hD hb
    have q := hyes ts er hT
    have p2 := hT.most
    -- self.turns
    refine q_fldN (b0.trans e1) (en_tuplesP (K := K) (i := 1) (j := 2) rfl (fun _ => rfl) (fun _ => rfl) hL (by omega)) fun u H2 e2 hu => ?_
    obtain ⟨t, rfl, tt2⟩ := hu H2 ((b0.trans e1).trans e2) fun _ _ _ h => h
    have hx2 := e2 _ _ (e1 _ _ hx)
    refine ⟨_, rfl, x, C, dx, [], rfl, hx2, T.cl, T.nT, (by show 0 < 1000; decide), ?_⟩
    -- self.many
    have xt : x ≠ t := fun z => by
      obtain ⟨as2, h2, _⟩ := tt2
      rw [← z, hx2] at h2
      cases h2
    obtain ⟨as2, ht2, hl2, hr2⟩ := id tt2
    refine ⟨_, rfl, x, C, dx, _, .ref t, rfl, upd_same, T.cl, T.nT, (by rw [lookup_putF, if_pos rfl]), t, as2.map V.ref, rfl, .inr (Evl.st_of (by rw [upd_ne xt.symm]; exact ht2)), _, rfl, x, C, dx, _, rfl, upd_same, T.cl, T.nM, (by show 1 < 1000; decide), ?_⟩
    have hml : ((as2.map V.ref).length : Int) = (ts.length : Int) := by rw [List.length_map, hl2]
    rw [hml]
    -- self.ties
    have n2 : plus B H1 H2 x = none := plus_none n0 (by rw [e1 _ _ hx]; rfl)
    have b3 : Evl.Ex (plus B H1 H2) (upd (upd H2 x (.ins C dx (putF "turns" (.ref t) []))) x (.ins C dx (putF "many" (.int ts.length) (putF "turns" (.ref t) [])))) := (plus_le.mut n2).mut n2
    have tt2l : TT (plus B H1 H2) t ts := by
      obtain ⟨t', et, h⟩ := hu (plus B H1 H2) (plus_base ((b0.trans e1).trans e2)) plus_new
      cases et
      exact h
    refine ⟨_, rfl, x, C, dx, _, .ref t, rfl, upd_same, T.cl, T.nT, (by rw [lookup_putF, if_neg kTM, lookup_putF, if_pos rfl]), ?_⟩
    refine ⟨t, ts, plus B H1 H2, rfl, b3, tt2l, hT, fun v H4 e4 hv => ?_⟩
    obtain ⟨ti, rfl, ti4⟩ := hv H4 (b3.trans e4) fun _ _ _ h => h
    have hx4 := e4 _ _ upd_same
    refine ⟨_, rfl, x, C, dx, _, rfl, hx4, T.cl, T.nI, (by show 2 < 1000; decide), ?_⟩
    have lx := less_none H x
    have exA : Evl.Ex (less H x) H4 := (((((less_ex H x).trans e1).trans e2).mut lx).mut lx).trans e4
    refine q _ (exA.mut lx) fun H3 h3 s3 hx3 => ?_
    have at3 : ∀ a o, a ≠ x → H a = none → H4 a = some o → H3 a = some o := fun a o hne hn h4 => s3 a o hn (by rw [upd_ne hne]; exact h4)
    have fromH1 : ∀ a, H1 a = none → H a = none := fun a h => Evl.fresh_back e1 h
    have up24 : ∀ a o, a ≠ x → H2 a = some o → H4 a = some o := fun a o hne h => e4 _ _ (by rw [upd_ne hne, upd_ne hne]; exact h)
    refine ⟨dx, t, ti, by rw [hx3, upd_same] <;> rfl, ?_, ?_⟩
    · obtain ⟨t', et, h⟩ := hu H3 h3 fun a o hn h2 => at3 a o (fun z => by rw [z, e1 _ _ hx] at hn; cases hn) (fromH1 a hn) (up24 a o (fun z => by rw [z, e1 _ _ hx] at hn; cases hn) h2)
      cases et
      exact h
    · have hp1 : Evl.Ex (plus B H1 H2) H3 := plus_in ((b0.trans e1).trans e2) h3 fun a o hn h2 => at3 a o (fun z => by rw [z, e1 _ _ hx] at hn; cases hn) (fromH1 a hn) (up24 a o (fun z => by rw [z, e1 _ _ hx] at hn; cases hn) h2)
      obtain ⟨t', et, h⟩ := hv H3 hp1 fun a o hn h4 => by
        have hne : a ≠ x := fun z => by rw [z, upd_same] at hn; cases hn
        rw [upd_ne hne, upd_ne hne] at hn
        exact at3 a o hne (fromH1 a (Evl.fresh_back e2 hn)) h4
      cases et
      exact h
end
end P04
end S_Qn
section S_Qp
namespace P04
open PySem PySem.Spec PyProof.Rows L2 Tl Hk LamX
/-- a value, and the web's turns if it is one -/
inductive WbV (K : PySem.W.Frag) (C : Addr) (H : Hp) : V → Option (List (List Int)) → Prop where
  | no {v : V} {n : String} (h : Ty7 K H v n) : WbV K C H v none
  | web {x : Addr} {ts : List (List Int)} (h : WebAt C H x ts) : WbV K C H (.ref x) (some ts)
theorem WbV.ex {K : PySem.W.Frag} {C : Addr} {H H' : Hp} {v : V} {o : Option (List (List Int))} (h : WbV K C H v o) (e : Evl.Ex H H') : WbV K C H' v o := by
  cases h with
  | no h => exact .no (h.ex e)
  | web h => exact .web (h.ex e)
theorem WbV.at {K : PySem.W.Frag} {C : Addr} {H : Hp} {v : V} {ts : List (List Int)} (h : WbV K C H v (some ts)) : ∃ x, v = .ref x ∧ WebAt C H x ts := by
  cases h with
  | web h => exact ⟨_, rfl, h⟩
abbrev tys : List String := ["NoneType", "bool", "int", "str", "list", "tuple", "dict"]
theorem Ty7.mem {K : PySem.W.Frag} {H : Hp} {v : V} {n : String} (h : Ty7 K H v n) : n ∈ tys := by
  cases h <;> decide
/-- isinstance of plain values in the class at C -/
def TKit (K : PySem.W.Frag) (C : Addr) : Prop := ∀ n ∈ tys, PySem.W.kitOne K (.type n) (.ref C) = some false
theorem rc_wbv {K : PySem.W.Frag} {mg : Str → Option Value} {C : Addr} {H : Hp} {v : V} {o : Option (List (List Int))} (T : TWeb K mg C) (I : TIns K C) (N : TKit K C) (h : WbV K C H v o) : Evl.RC (rIsi K) [v, .ref C] H (.bl o.isSome) := by
  cases h with
  | @no v n h => exact fun H1 e _ q => ⟨v, .ref C, .type n, .ref C, false, rfl, .own C, (h.ex e).tyx, N n h.mem, q H1 (Evl.Ex.refl H1)⟩
  | web h => exact rc_web T I h
theorem eqv_row (ns ms : List Int) : PyData.eqv (.tuple (ns.map PyData.int)) (.tuple (ms.map PyData.int)) = decide (ns = ms) := PySem.W.Datum.eqv (α := List Int) ns ms
theorem eqv_dT : ∀ ts us : List (List Int), PyData.eqv (dT ts) (dT us) = decide (ts = us)
  | [], [] => rfl
  | [], _ :: _ => rfl
  | _ :: _, [] => rfl
  | t :: ts, u :: us => by
    show PyData.eqv (.tuple (_ :: _)) (.tuple (_ :: _)) = _
    have h : PyData.eqv (dT (t :: ts)) (dT (u :: us)) = (PyData.eqv (.tuple (t.map PyData.int)) (.tuple (u.map PyData.int)) && PyData.eqv (dT ts) (dT us)) := rfl
    refine h.trans ?_
    rw [eqv_row, eqv_dT ts us]
    by_cases a : t = u <;> by_cases b : ts = us <;> simp [a, b]
theorem scWebE : FnScope ["self", "other"] ["self", "other"] (defScope sWebE) := ⟨rfl, rfl, rfl, by decide +kernel, rfl, by decide +kernel, by decide +kernel⟩
def spEqG (K : PySem.W.Frag) (C : Addr) : Sp := fun vs H Q _ => ∃ (x : Addr) (ts : List (List Int)) (v : V) (o : Option (List (List Int))), vs = [.ref x, v] ∧ WebAt C H x ts ∧ WbV K C H v o ∧ ∀ H1, Evl.Ex H H1 → Q (.bl (decide (o = some ts))) H1
section
variable {P : Program} {w : World} {K : PySem.W.Frag} {mg : Str → Option Value} {base : Heap}
theorem ok_eqG {C f : Addr} {fd : FuncData} {k : Nat} (F : Fun K "__eq__" "Web.__eq__" sWebE f fd) (T : TWeb K mg C) (I : TIns K C) (N : TKit K C) (mi : mg "isinstance" = none) :
    FnOk P w K mg base CX0 (k + 1) f fd ["self", "other"] (spEqG K C) := by
  refine F.ok scWebE (fun vs H Q E h => ?_) (fun cdv A outer s H vs Q E hr h => ?_)
  · obtain ⟨x, ts, v, o, rfl, _⟩ := h
    rfl
  · obtain ⟨x, ts, v, o, rfl, ha, hv, q⟩ := h
    refine ⟨_, pss_one (ps_ret (pe_and (pe_callB call_isi (by rfl) mi (by decide +kernel) (pa_cons (pv 1) (pa_cons (pe_glob (v := .ref C) (by rfl) T.mgC rfl) pa_nil))) (pe_one (pe_cmpR (op_eqD hr.units) (pe_fld (pv 0) rfl) (pe_fld (pv 1) rfl) (nomark _))))), ?_⟩
    have isw : Evl.Ev (tCB (rIsi K) (tCons (tVar 1) (tCons (tC (.ref C)) tNil))) (start ["self", "other"] [.ref x, v]) H (.bl o.isSome) := Evl.ev_cb (Evl.ea_cons (Evl.ev_var rfl) (Evl.ea_cons Evl.ev_c Evl.ea_nil)) (rc_wbv T I N hv)
    cases o with
    | none => exact Evl.s_ret (Evl.ev_andV (a := false) (b := false) isw fun z => nomatch z) fun H1 e1 => q H1 e1
    | some us =>
      obtain ⟨y, rfl, hb⟩ := hv.at
      obtain ⟨da, ta, ia, a1, a2, a3⟩ := id ha
      obtain ⟨db, tb, ib, b1, b2, b3⟩ := id hb
      refine Evl.s_ret (v := .bl (decide (some us = some ts))) (Evl.ev_is (Evl.ev_andV (a := true) (b := decide (ts = us)) isw fun _ => ?_) ?_) fun H1 e1 => q H1 e1
      · refine Evl.ev_op (ev_fld (Evl.ev_var rfl) a1 T.cl T.nT (wf_t _ _ _)) (ev_fld (Evl.ev_var rfl) b1 T.cl T.nT (wf_t _ _ _)) fun H2 e2 Q q => ⟨dT ts, dT us, (a2.ex e2).dp, (b2.ex e2).dp, dT_shaped ts, dT_shaped us, ?_⟩
        rw [eqv_dT]
        exact q H2 (Evl.Ex.refl H2)
      · rw [Bool.true_and]
        congr 1
        exact decide_eq_decide.mpr ⟨fun z => by rw [z], fun z => (Option.some.inj z).symm⟩
end
end P04
end S_Qp
section S_Qq
namespace P04
/-! ### turns on their way -/
def put (r : Nat) (o : Int) (ns : List Int) : List Int := ns.take r ++ [o] ++ ns.drop r
theorem put_perm (r : Nat) (o : Int) (ns : List Int) : (put r o ns).Perm (o :: ns) := by
  unfold put
  rw [List.append_assoc, List.singleton_append]
  refine List.perm_middle.trans ?_
  rw [List.take_append_drop]
theorem put_mem {r : Nat} {o x : Int} {ns : List Int} : x ∈ put r o ns ↔ x = o ∨ x ∈ ns := by
  rw [(put_perm r o ns).mem_iff, List.mem_cons]
theorem put_nodup {r : Nat} {o : Int} {ns : List Int} (h : ns.Nodup) (ho : o ∉ ns) : (put r o ns).Nodup := by
  rw [(put_perm r o ns).nodup_iff]
  exact List.nodup_cons.mpr ⟨ho, h⟩
/-- so far: the last place is tied to places up to j -/
structure Part (ts : List (List Int)) (j : Nat) : Prop where
  pl : ∀ (i : Nat) (ns : List Int), ts[i]? = some ns → ns.Nodup ∧ (∀ x ∈ ns, 1 ≤ x ∧ x ≤ (ts.length : Int)) ∧ ((i : Int) + 1) ∉ ns
  sym : ∀ (i : Nat) (ns : List Int) (o : Int), ts[i]? = some ns → o ∈ ns → ∃ ms, ts[(o - 1).toNat]? = some ms ∧ ((i : Int) + 1) ∈ ms
  last : ∀ ns, ts[ts.length - 1]? = some ns → ∀ x ∈ ns, x ≤ (j : Int)
theorem Part.skip {ts : List (List Int)} {j : Nat} (h : Part ts j) : Part ts (j + 1) := ⟨h.pl, h.sym, fun ns hn x hx => by have := h.last ns hn x hx; omega⟩
theorem Part.app {ts : List (List Int)} {j : Nat} (h : Part ts j) : Part (ts ++ [[]]) 0 where
  pl := fun i ns hn => by
    rw [List.length_append]
    rcases Nat.lt_or_ge i ts.length with hi | hi
    · rw [List.getElem?_append_left hi] at hn
      obtain ⟨a, b, c⟩ := h.pl i ns hn
      exact ⟨a, fun x hx => by have := b x hx; simp; omega, c⟩
    · rw [List.getElem?_append_right hi] at hn
      have : ns ∈ [([] : List Int)] := List.mem_of_getElem? hn
      rw [List.mem_singleton.mp this]
      exact ⟨List.nodup_nil, fun x hx => (nomatch hx), fun hx => nomatch hx⟩
  sym := fun i ns o hn ho => by
    rcases Nat.lt_or_ge i ts.length with hi | hi
    · rw [List.getElem?_append_left hi] at hn
      obtain ⟨ms, h1, h2⟩ := h.sym i ns o hn ho
      exact ⟨ms, by rw [List.getElem?_append_left (List.getElem?_eq_some_iff.mp h1).1]; exact h1, h2⟩
    · rw [List.getElem?_append_right hi] at hn
      have : ns ∈ [([] : List Int)] := List.mem_of_getElem? hn
      rw [List.mem_singleton.mp this] at ho
      cases ho
  last := fun ns hn x hx => by
    rw [List.length_append, List.length_singleton, Nat.add_sub_cancel, List.getElem?_append_right (Nat.le_refl _), Nat.sub_self] at hn
    cases hn
    cases hx
/-- a tie between the last place and place j + 1 -/
theorem Part.tie {ts : List (List Int)} {j r s : Nat} {ns ms : List Int} (h : Part ts j) (hj : j + 1 < ts.length) (h1 : ts[ts.length - 1]? = some ns) (h2 : ts[j]? = some ms) :
    Part ((ts.set (ts.length - 1) (put r ((j : Int) + 1) ns)).set j (put s (ts.length : Int) ms)) (j + 1) := by
  have lt : ((ts.set (ts.length - 1) (put r ((j : Int) + 1) ns)).set j (put s (ts.length : Int) ms)).length = ts.length := by rw [List.length_set, List.length_set]
  have atj : ((ts.set (ts.length - 1) (put r ((j : Int) + 1) ns)).set j (put s (ts.length : Int) ms))[j]? = some (put s (ts.length : Int) ms) := by
    rw [List.getElem?_set_self (by rw [List.length_set]; omega)]
  have atl : ((ts.set (ts.length - 1) (put r ((j : Int) + 1) ns)).set j (put s (ts.length : Int) ms))[ts.length - 1]? = some (put r ((j : Int) + 1) ns) := by
    rw [List.getElem?_set_ne (by omega), List.getElem?_set_self (by omega)]
  have ato : ∀ i, i ≠ j → i ≠ ts.length - 1 → ((ts.set (ts.length - 1) (put r ((j : Int) + 1) ns)).set j (put s (ts.length : Int) ms))[i]? = ts[i]? := fun i a b => by
    rw [List.getElem?_set_ne (Ne.symm a), List.getElem?_set_ne (Ne.symm b)]
  have nj : ((j : Int) + 1) ∉ ns := fun z => by have := h.last ns h1 _ z; omega
  have nl : (ts.length : Int) ∉ ms := fun z => by
    obtain ⟨us, u1, u2⟩ := h.sym j ms _ h2 z
    rw [show ((ts.length : Int) - 1).toNat = ts.length - 1 by omega, h1] at u1
    cases u1
    exact nj u2
  -- where a place stood, it stands
  have up : ∀ (i : Nat) (us : List Int), ts[i]? = some us → ∃ vs, ((ts.set (ts.length - 1) (put r ((j : Int) + 1) ns)).set j (put s (ts.length : Int) ms))[i]? = some vs ∧ ∀ x ∈ us, x ∈ vs := fun i us hu => by
    by_cases a : i = j
    · subst a
      rw [h2] at hu
      cases hu
      exact ⟨_, atj, fun x hx => put_mem.mpr (.inr hx)⟩
    · by_cases b : i = ts.length - 1
      · subst b
        rw [h1] at hu
        cases hu
        exact ⟨_, atl, fun x hx => put_mem.mpr (.inr hx)⟩
      · exact ⟨us, by rw [ato i a b]; exact hu, fun x hx => hx⟩
  refine ⟨fun i us hu => ?_, fun i us o hu ho => ?_, fun us hu x hx => ?_⟩
  · rw [lt]
    by_cases a : i = j
    · subst a
      rw [atj] at hu
      cases hu
      obtain ⟨p1, p2, p3⟩ := h.pl i ms h2
      refine ⟨put_nodup p1 nl, fun x hx => ?_, fun z => ?_⟩
      · rcases put_mem.mp hx with e | e
        · omega
        · exact p2 x e
      · rcases put_mem.mp z with e | e
        · omega
        · exact p3 e
    · by_cases b : i = ts.length - 1
      · subst b
        rw [atl] at hu
        cases hu
        obtain ⟨p1, p2, p3⟩ := h.pl _ ns h1
        refine ⟨put_nodup p1 nj, fun x hx => ?_, fun z => ?_⟩
        · rcases put_mem.mp hx with e | e
          · omega
          · exact p2 x e
        · rcases put_mem.mp z with e | e
          · omega
          · exact p3 e
      · rw [ato i a b] at hu
        exact h.pl i us hu
  · by_cases a : i = j
    · subst a
      rw [atj] at hu
      cases hu
      rcases put_mem.mp ho with e | e
      · refine ⟨put r ((i : Int) + 1) ns, ?_, put_mem.mpr (.inl rfl)⟩
        rw [e, show ((ts.length : Int) - 1).toNat = ts.length - 1 by omega]
        exact atl
      · obtain ⟨us, u1, u2⟩ := h.sym i ms o h2 e
        obtain ⟨vs, v1, v2⟩ := up _ us u1
        exact ⟨vs, v1, v2 _ u2⟩
    · by_cases b : i = ts.length - 1
      · subst b
        rw [atl] at hu
        cases hu
        rcases put_mem.mp ho with e | e
        · refine ⟨put s (ts.length : Int) ms, ?_, put_mem.mpr (.inl (by omega))⟩
          rw [e, show ((j : Int) + 1 - 1).toNat = j by omega]
          exact atj
        · obtain ⟨us, u1, u2⟩ := h.sym _ ns o h1 e
          obtain ⟨vs, v1, v2⟩ := up _ us u1
          exact ⟨vs, v1, v2 _ u2⟩
      · rw [ato i a b] at hu
        obtain ⟨us2, u1, u2⟩ := h.sym i us o hu ho
        obtain ⟨vs, v1, v2⟩ := up _ us2 u1
        exact ⟨vs, v1, v2 _ u2⟩
  · rw [lt, atl] at hu
    cases hu
    rcases put_mem.mp hx with e | e
    · omega
    · have := h.last ns h1 x e
      omega
end P04
end S_Qq
section S_Wq
namespace Hk
open PySem PySem.Spec PyProof.Rows L2 Tl
theorem asc_eq : ∀ {xs ys : List Int}, xs.Pairwise (· < ·) → ys.Pairwise (· < ·) → (∀ k, k ∈ xs ↔ k ∈ ys) → xs = ys
  | [], [], _, _, _ => rfl
  | [], y :: r, _, _, h => by have := (h y).mpr List.mem_cons_self; cases this
  | x :: r, [], _, _, h => by have := (h x).mp List.mem_cons_self; cases this
  | x :: r, y :: s, h1, h2, h => by
    obtain ⟨a1, a2⟩ := List.pairwise_cons.mp h1
    obtain ⟨b1, b2⟩ := List.pairwise_cons.mp h2
    have e : x = y := by
      rcases List.mem_cons.mp ((h x).mp List.mem_cons_self) with z | z
      · exact z
      · rcases List.mem_cons.mp ((h y).mpr List.mem_cons_self) with u | u
        · exact u.symm
        · have := a1 y u
          have := b1 x z
          omega
    subst e
    rw [asc_eq a2 b2 fun k => ?_]
    constructor
    · intro hk
      rcases List.mem_cons.mp ((h k).mp (List.mem_cons_of_mem _ hk)) with z | z
      · have := a1 k hk; omega
      · exact z
    · intro hk
      rcases List.mem_cons.mp ((h k).mpr (List.mem_cons_of_mem _ hk)) with z | z
      · have := b1 k hk; omega
      · exact z
theorem in_ints (x : Int) (ns : List Int) : inV (.int x) (ns.map V.int) = decide (x ∈ ns) := by
  unfold inV
  induction ns with
  | nil => rfl
  | cons a r ih =>
    rw [List.map_cons, List.any_cons, ih]
    have e : eqV (.int a) (.int x) = decide (x = a) := by
      show decide (a = x) = decide (x = a)
      exact decide_eq_decide.mpr eq_comm
    rw [e, ← Bool.decide_or]
    exact decide_eq_decide.mpr List.mem_cons.symm
theorem flat_ints (ns : List Int) : (ns.map V.int).all flatV = true := by
  rw [List.all_eq_true]
  intro v hv
  obtain ⟨i, _, rfl⟩ := List.mem_map.mp hv
  rfl
section
open Evl
variable {K : PySem.W.Frag} {σ : L2.St} {H : Hp} {ta tb te : TE}
theorem el_from1 {tl : TO} {a : Addr} {xs : List V} (h : Ev te σ H (.ref a)) (h2 : EvO tl σ H (some (1 : Int))) (hs : SqL K H a xs) : EvL (tSl (rSlL K) te tl tNoPart) σ H (xs.drop 1) := by
  rw [← cutFrom]
  exact el_sl h h2 eo_none hs
theorem el_sortedSet {w : World} {ns : List Int} (h : EvL ta σ H (ns.map V.int)) (hp : ns.Pairwise (· < ·)) (hl : ns.length < 60) : EvL (tCB (rSortedSet w) (tCons (tCB (rSetL K w) (tCons ta tNil)) tNil)) σ H (ns.map V.int) := fun H1 e Q q =>
  h H1 e _ fun l H2 hl' e2 h2 => ⟨l, ns, rfl, sq_of h2, by omega, fun p c hp' hc => ⟨p, _, c, rfl, upd_same, by omega, fun ms r hpw hmem hlen hr => by
    obtain rfl : ms = ns := asc_eq hpw hp fun k => (hmem k).trans decide_eq_true_iff
    exact q r _ (fresh_back (e2.trans (Ex.new hp')) hr) ((e2.trans (Ex.new hp')).trans (Ex.new hr)) upd_same⟩⟩
theorem ev_notIn {x : Int} {ns : List Int} (h : Ev ta σ H (.int x)) (h2 : EvL tb σ H (ns.map V.int)) : Ev (tOp (rIn K true) ta tb) σ H (.bl !decide (x ∈ ns)) := fun H1 e Q q =>
  h H1 e _ fun H2 e2 => h2 H2 (e.trans e2) _ fun p H3 hp e3 h3 => ⟨p, _, rfl, .inl (sq_of h3), rfl, flat_ints ns, by
    show Q (.bl !inV (.int x) (ns.map V.int)) H3
    rw [in_ints]
    exact q H3 (e2.trans e3)⟩
end
section
open Evl
variable {K : PySem.W.Frag} {σ : L2.St} {H : Hp} {ta tb : TE}
/-- a new list of ints is the sorted set of the same -/
theorem ev_eqSS {w : World} {ns : List Int} (h : EvL ta σ H (ns.map V.int)) (h2 : EvL tb σ H (ns.map V.int)) (hl : ns.length < 60) : Ev (tOp (rEqD K) ta (tCB (rSortedSet w) (tCons (tCB (rSetL K w) (tCons tb tNil)) tNil))) σ H (.bl (pd (ns.Pairwise (· < ·)))) := fun H1 e Q q =>
  h H1 e _ fun l1 H2 hl1 e2 hh1 => h2 H2 (e.trans e2) _ fun l H3 hl' e3 hh2 => ⟨l, ns, rfl, sq_of hh2, by omega, fun p c hp' hc => ⟨p, _, c, rfl, upd_same, by omega, fun ms r hpw hmem hlen hr => by
    have e4 : Ex H3 (upd (upd H3 p _) r (.lst (ms.map V.int))) := (Ex.new hp').trans (Ex.new hr)
    refine ⟨.list (zD ns), .list (zD ms), .lst (sq_of (e4 _ _ (e3 _ _ hh1))) (dp_zD ns), .lst (sq_of upd_same) (dp_zD ms), PySem.W.ke_shaped_ints ns, PySem.W.ke_shaped_ints ms, ?_⟩
    rw [eqv_zD]
    have hm : ∀ k, k ∈ ms ↔ k ∈ ns := fun k => (hmem k).trans decide_eq_true_iff
    have hp : decide (ns = ms) = pd (ns.Pairwise (· < ·)) := by
      by_cases z : ns.Pairwise (· < ·)
      · rw [pd_true z, decide_eq_true (asc_eq z hpw fun k => (hm k).symm)]
      · rw [pd_false z, decide_eq_false (fun y : ns = ms => z (by rw [y]; exact hpw))]
    rw [hp]
    exact q _ ((e2.trans e3).trans e4)⟩⟩
end
end Hk
end S_Wq
section S_Wr
namespace Hk
open PySem PySem.Spec PyProof.Rows L2 Tl
theorem refs_of {H : Hp} : ∀ {xs : List V} {P : Nat → Addr → Hp → Prop}, (∀ i v, xs[i]? = some v → ∃ r, v = .ref r ∧ P i r H) → ∃ rs : List Addr, xs = rs.map V.ref ∧ rs.length = xs.length ∧ ∀ i r, rs[i]? = some r → P i r H
  | [], P, hx => ⟨[], rfl, rfl, fun i r z => by simp at z⟩
  | v :: r, P, hx => by
    obtain ⟨a, rfl, ha⟩ := hx 0 v rfl
    obtain ⟨rs, h1, h2, h3⟩ := refs_of (xs := r) (P := fun i => P (i + 1)) fun i u hu => hx (i + 1) u (by simpa using hu)
    refine ⟨a :: rs, by rw [h1, List.map_cons], by rw [List.length_cons, List.length_cons, h2], fun i u hu => ?_⟩
    cases i with
    | zero => cases hu; exact ha
    | succ i => exact h3 i u (by simpa using hu)
theorem holds_refs {P : Nat → Addr → Hp → Prop} {n : Nat} {xs : List V} {H : Hp} (h : Holds (fun i v H => ∃ r, v = .ref r ∧ P i r H) n xs H) : ∃ rs : List Addr, xs = rs.map V.ref ∧ rs.length = n ∧ ∀ i r, rs[i]? = some r → P i r H := by
  obtain ⟨hl, hx⟩ := h
  subst hl
  exact refs_of hx
theorem eu_tupL {K : PySem.W.Frag} {σ : L2.St} {H : Hp} {ta : TE} {xs : List V} (h : Evl.EvL ta σ H xs) : Evl.EvU (tCB (fun xs H Q => ∃ p ys, xs = [V.ref p] ∧ ((SqL K H p ys ∧ ∀ l, H l = none → Q (V.ref l) (upd H l (HO.tup ys))) ∨ (SqT K H p ys ∧ Q (V.ref p) H))) (tCons ta tNil)) σ H xs := fun H1 e Q q =>
  h H1 e _ fun p H2 hp e2 h2 => ⟨p, xs, rfl, .inl ⟨Evl.sq_of h2, fun t ht => q t _ (Evl.fresh_back e2 ht) (e2.trans (Evl.Ex.new ht)) upd_same⟩⟩
theorem sum_le {ps : List Str} {m : Nat} (h : ∀ s ∈ ps, s.length ≤ m) : (ps.map (·.length)).sum ≤ m * ps.length := by
  induction ps with
  | nil => simp
  | cons a r ih =>
    have := h a List.mem_cons_self
    have := ih fun s hs => h s (List.mem_cons_of_mem _ hs)
    rw [List.map_cons, List.sum_cons, List.length_cons, Nat.mul_add, Nat.mul_one]
    omega
end Hk
namespace Hk
open PySem PySem.Spec PyProof.Rows L2 Tl
theorem cons_any {te : TE} {tr : TA} {σ : L2.St} {H : Hp} {Q : List V → Hp → Prop} (h : te σ H fun v H1 => tr σ H1 fun vs H2 => Q (v :: vs) H2) : tCons te tr σ H Q := h
theorem asg_go {te : TE} {tz : TS} {i : Nat} {D : Ends} {σ : L2.St} {H : Hp} (h : te σ H fun v H1 => tz D (σ.set i (some v)) H1) : tSeq (tAsg te (gName i)) tz D σ H := h
theorem sl_go {r : V → Option Int → Option Int → Hp → VK → Prop} {te : TE} {tl th : TO} {σ : L2.St} {H : Hp} {Q : VK} (h : te σ H fun x H1 => tl σ H1 fun lo H2 => th σ H2 fun hi H3 => r x lo hi H3 Q) : tSl r te tl th σ H Q := h
theorem op_go {r : R2} {ta tb : TE} {σ : L2.St} {H : Hp} {Q : VK} (h : ta σ H fun x H1 => tb σ H1 fun y H2 => r x y H2 Q) : tOp r ta tb σ H Q := h
theorem tup_go {ta : TA} {σ : L2.St} {H : Hp} {Q : VK} (h : ta σ H fun xs H1 => xs.length ≤ sizeLine ∧ ∀ p, H1 p = none → Q (.ref p) (upd H1 p (.tup xs))) : tTup ta σ H Q := h
theorem lst_go {ta : TA} {σ : L2.St} {H : Hp} {Q : VK} (h : ta σ H fun xs H1 => xs.length ≤ sizeLine ∧ ∀ p, H1 p = none → Q (.ref p) (upd H1 p (.lst xs))) : tLst ta σ H Q := h
theorem ret_go {te : TE} {D : Ends} {σ : L2.St} {H : Hp} (h : te σ H D.rt) : tRet te D σ H := h
theorem call_go {sp : Sp} {dvs vs : List V} {E : XK} {ta : TA} {σ : L2.St} {H : Hp} {Q : VK} (h : Evl.EvA ta σ H vs) (k : ∀ H1, Evl.Ex H H1 → sp (vs ++ dvs) H1 Q E) : tCall sp dvs E ta σ H Q := h H (Evl.Ex.refl H) _ k
theorem cons_c {v : V} {tr : TA} {σ : L2.St} {H : Hp} {Q : List V → Hp → Prop} (h : tr σ H fun vs H2 => Q (v :: vs) H2) : tCons (tC v) tr σ H Q := h
theorem call_raw {sp : Sp} {dvs : List V} {E : XK} {ta : TA} {σ : L2.St} {H : Hp} {Q : VK} (h : ta σ H fun vs H1 => sp (vs ++ dvs) H1 Q E) : tCall sp dvs E ta σ H Q := h
theorem cb_go {r : List V → Hp → VK → Prop} {ta : TA} {σ : L2.St} {H : Hp} {Q : VK} (h : ta σ H fun vs H1 => r vs H1 Q) : tCB r ta σ H Q := h
theorem par_go {i j : Nat} {ta : TA} {tz : TS} {D : Ends} {σ : L2.St} {H : Hp} (h : ta σ H fun vs H1 => ∃ v w, vs = [v, w] ∧ tz D ((σ.set i (some v)).set j (some w)) H1) : tSeq (tPar i j ta) tz D σ H := h
theorem ev_slS {σ : L2.St} {H : Hp} {te : TE} {tl th : TO} {z : Str} {lo hi : Option Int} (h : Evl.Ev te σ H (.str z)) (h1 : Evl.EvO tl σ H lo) (h2 : Evl.EvO th σ H hi) (hz : z.length ≤ sizeLine) : Evl.Ev (tSl rSlS te tl th) σ H (.str (cutS z lo hi)) := fun H1 e Q q =>
  h H1 e _ fun H2 e2 => h1 H2 (e.trans e2) _ fun H3 e3 => h2 H3 ((e.trans e2).trans e3) _ fun H4 e4 => ⟨z, rfl, hz, q H4 ((e2.trans e3).trans e4)⟩
theorem rv_cat {H : Hp} {x y : Str} (h : x.length + y.length ≤ sizeLine) : Evl.RV (fun x y H Q => ∃ i j, x = V.str i ∧ y = V.str j ∧ i.length + j.length ≤ sizeLine ∧ Q (.str (i ++ j)) H) (.str x) (.str y) H (.str (x ++ y)) := fun H1 e Q q => ⟨x, y, rfl, rfl, h, q H1 (Evl.Ex.refl _)⟩
theorem ev_callN {sp : Sp} {gV : List V → List V → List V} {E : XK} {tk : TA} {σ : L2.St} {H : Hp} {zs : List V} {m : Nat} {v : V} (h : Evl.EvA tk σ H zs) (hm : zs.length = m) (hs : Evl.SpV sp (gV [] zs) H v) : Evl.Ev (tCallN 0 m sp gV E tNil tk) σ H v := fun H1 e Q q =>
  h H1 e _ fun H2 e2 => ⟨rfl, hm, hs H2 (e.trans e2) Q (fun H3 e3 => q H3 (e2.trans e3)) E⟩
theorem et_chain {σ : L2.St} {H : Hp} {ta tb tc : TE} {i j k : Int} (h1 : Evl.Ev ta σ H (.int i)) (h2 : Evl.Ev tb σ H (.int j)) (h3 : Evl.Ev tc σ H (.int k)) : Evl.EvT (tTest (tChain (rI0 fun i j => .bl (decide (i ≤ j))) (rI0 fun i j => .bl (decide (i ≤ j))) ta tb tc)) σ H (decide (i ≤ j) && decide (j ≤ k)) := fun H1 e Q q =>
  h1 H1 e _ fun H2 e2 => h2 H2 (e.trans e2) _ fun H3 e3 => ⟨i, j, rfl, rfl, decide (i ≤ j), rfl, if_go (fun hb => h3 H3 ((e.trans e2).trans e3) _ fun H4 e4 => ⟨j, k, rfl, rfl, decide (j ≤ k), rfl, by rw [hb, Bool.true_and] at q; exact q H4 ((e2.trans e3).trans e4)⟩) (fun hb => ⟨false, rfl, by rw [hb, Bool.false_and] at q; exact q H3 (e2.trans e3)⟩)⟩
theorem _root_.Evl.SpV.is {sp : Sp} {vs : List V} {H : Hp} {v w : V} (h : Evl.SpV sp vs H v) (e : v = w) : Evl.SpV sp vs H w := e ▸ h
end Hk
namespace Hk
open PySem PySem.Spec PyProof.Rows L2 Tl
open Evl
theorem ei_rowsN {K : PySem.W.Frag} {σ : L2.St} {H : Hp} {te : TE} {xs : List V} {n : Nat} {W : Hp → Prop} (h : EvL te σ H xs) (hn : n = xs.length) (hW : ∀ A, Ex H A → W A) : EvI (iList K te) σ H n (YRow xs W) := fun H1 e R k => by
  subst hn
  exact h H1 e _ fun a H2 ha e2 hx => ⟨a, rfl, ⟨xs, sq_of hx⟩, k _ (fun A => SqL K A a xs ∧ W A) H2 e2 (walk_list.mono (fun _ q => q.1) fun i A v A' hi q y => ⟨y.1, y.2, q.2⟩) fun A ab s => ⟨sq_of (s _ _ ha hx), hW A ab⟩⟩
/-- a list of ints that stands is not the sorted set of the same -/
theorem ev_neSS {K : PySem.W.Frag} {σ : L2.St} {H : Hp} {ta tb : TE} {w : World} {a : Addr} {ns : List Int} (h : Ev ta σ H (.ref a)) (h2 : Ev tb σ H (.ref a)) (hs : H a = some (.lst (ns.map V.int))) (hl : ns.length < 60) : Ev (tOp (rNeD K) ta (tCB (rSortedSet w) (tCons (tCB (rSetL K w) (tCons tb tNil)) tNil))) σ H (.bl (!pd (ns.Pairwise (· < ·)))) := fun H1 e Q q =>
  h H1 e _ fun H2 e2 => h2 H2 (e.trans e2) _ fun H3 e3 => ⟨a, ns, rfl, sq_of (e3 _ _ (e2 _ _ (e _ _ hs))), by omega, fun p c hp' hc => ⟨p, _, c, rfl, upd_same, by omega, fun ms r hpw hmem hlen hr => by
    have e4 : Ex H3 (upd (upd H3 p _) r (.lst (ms.map V.int))) := (Ex.new hp').trans (Ex.new hr)
    refine ⟨.list (zD ns), .list (zD ms), .lst (sq_of (e4 _ _ (e3 _ _ (e2 _ _ (e _ _ hs))))) (dp_zD ns), .lst (sq_of upd_same) (dp_zD ms), PySem.W.ke_shaped_ints ns, PySem.W.ke_shaped_ints ms, ?_⟩
    rw [eqv_zD]
    have hm : ∀ k, k ∈ ms ↔ k ∈ ns := fun k => (hmem k).trans decide_eq_true_iff
    have hp : decide (ns = ms) = pd (ns.Pairwise (· < ·)) := by
      by_cases z : ns.Pairwise (· < ·)
      · rw [pd_true z, decide_eq_true (asc_eq z hpw fun k => (hm k).symm)]
      · rw [pd_false z, decide_eq_false (fun y : ns = ms => z (by rw [y]; exact hpw))]
    rw [hp]
    exact q _ ((e2.trans e3).trans e4)⟩⟩
end Hk
end S_Wr
section S_Qr
namespace P04
open PySem PySem.Spec PyProof.Rows L2 Tl Hk LamX
/-- lists of lists of ints, all made since H0 -/
structure Web0 (H0 H : Hp) (t c A : Addr) (as : List Addr) (ts : List (List Int)) (n : Nat) : Prop where
  kept : Kept t H0 H
  lst : H A = some (.lst (as.map V.ref))
  nA : H0 A = none
  len : as.length = ts.length
  nd : as.Nodup
  row : ∀ (i : Nat) (a : Addr) (ns : List Int), as[i]? = some a → ts[i]? = some ns → a ≠ A ∧ H0 a = none ∧ H a = some (.lst (ns.map V.int))
  tub : Tub H t c n
theorem Web0.go {H0 H H' : Hp} {t c A : Addr} {as : List Addr} {ts : List (List Int)} {n m : Nat} (w : Web0 H0 H t c A as ts n) (T0 : ∃ k, Tub H0 t c k) (k : Kept t H H') (T : Tub H' t c m) : Web0 H0 H' t c A as ts m := by
  obtain ⟨_, T0⟩ := T0
  exact ⟨w.kept.trans k, k _ _ (T0.ne w.nA).1 w.lst, w.nA, w.len, w.nd, fun i a ns h1 h2 => by
    obtain ⟨r1, r2, r3⟩ := w.row i a ns h1 h2
    exact ⟨r1, r2, k _ _ (T0.ne r2).1 r3⟩, T⟩
theorem Web0.ex {H0 H H' : Hp} {t c A : Addr} {as : List Addr} {ts : List (List Int)} {n : Nat} (w : Web0 H0 H t c A as ts n) (T0 : ∃ k, Tub H0 t c k) (e : Evl.Ex H H') : Web0 H0 H' t c A as ts n := w.go T0 (kept_ex e) (w.tub.ex e)
theorem Web0.set {H0 H : Hp} {t c A a : Addr} {as : List Addr} {ts : List (List Int)} {n i : Nat} {ns : List Int} (w : Web0 H0 H t c A as ts n) (T0 : ∃ k, Tub H0 t c k) (ha : as[i]? = some a) (hi : i < ts.length) : Web0 H0 (upd H a (.lst (ns.map V.int))) t c A as (ts.set i ns) n := by
  obtain ⟨_, T0⟩ := T0
  obtain ⟨r1, r2, r3⟩ := w.row i a _ ha (List.getElem?_eq_getElem hi)
  obtain ⟨at_, ac⟩ := T0.ne r2
  refine ⟨fun b o hb h => ?_, by rw [upd_ne r1.symm]; exact w.lst, w.nA, by rw [w.len, List.length_set], w.nd, fun j b ms hj hm => ?_, w.tub.upd at_ ac⟩
  · rw [upd_ne (fun z => by rw [z, r2] at h; cases h)]
    exact w.kept b o hb h
  · by_cases z : j = i
    · subst z
      rw [ha] at hj
      cases hj
      rw [List.getElem?_set_self hi] at hm
      cases hm
      exact ⟨r1, r2, upd_same⟩
    · rw [List.getElem?_set_ne (Ne.symm z)] at hm
      obtain ⟨q1, q2, q3⟩ := w.row j b ms hj hm
      refine ⟨q1, q2, ?_⟩
      rw [upd_ne (fun e => z ?_)]
      · exact q3
      · subst e
        have h1 := List.getElem?_eq_some_iff.mp hj
        have h2 := List.getElem?_eq_some_iff.mp ha
        obtain ⟨l1, e1⟩ := h1
        obtain ⟨l2, e2⟩ := h2
        exact (List.getElem_inj w.nd).mp (e1.trans e2.symm)
theorem Web0.app {H0 H : Hp} {t c A a : Addr} {as : List Addr} {ts : List (List Int)} {n : Nat} (w : Web0 H0 H t c A as ts n) (T0 : ∃ k, Tub H0 t c k) (ha : H a = none) : Web0 H0 (upd (upd H a (.lst [])) A (.lst (as.map V.ref ++ [.ref a]))) t c A (as ++ [a]) (ts ++ [[]]) n := by
  obtain ⟨_, T0⟩ := T0
  have Aa : A ≠ a := fun z => by rw [← z, w.lst] at ha; cases ha
  have a0 : H0 a = none := by
    cases z : H0 a with
    | none => rfl
    | some o =>
      by_cases e : a = t
      · obtain ⟨cs, turn, rest, ht, _⟩ := w.tub
        rw [e, ht] at ha
        cases ha
      · rw [w.kept a o e z] at ha
        cases ha
  obtain ⟨At, Ac⟩ := T0.ne w.nA
  obtain ⟨at_, ac⟩ := T0.ne a0
  refine ⟨fun b o hb h => ?_, by rw [upd_same, List.map_append]; rfl, w.nA, by rw [List.length_append, List.length_append, w.len]; rfl, ?_, fun j b ms hj hm => ?_, (w.tub.upd at_ ac).upd At Ac⟩
  · rw [upd_ne (fun z => by rw [z, w.nA] at h; cases h), upd_ne (fun z => by rw [z, a0] at h; cases h)]
    exact w.kept b o hb h
  · rw [List.nodup_append]
    refine ⟨w.nd, by simp, fun x hx y hy e => ?_⟩
    rw [List.mem_singleton.mp hy] at e
    subst e
    obtain ⟨i, hi, e⟩ := List.mem_iff_getElem.mp hx
    have := (w.row i x _ (by rw [List.getElem?_eq_getElem hi, e]) (List.getElem?_eq_getElem (by rw [← w.len]; exact hi))).2.2
    rw [this] at ha
    cases ha
  · rcases Nat.lt_or_ge j as.length with z | z
    · rw [List.getElem?_append_left z] at hj
      rw [List.getElem?_append_left (by rw [← w.len]; exact z)] at hm
      obtain ⟨q1, q2, q3⟩ := w.row j b ms hj hm
      refine ⟨q1, q2, ?_⟩
      rw [upd_ne q1, upd_ne (fun e => by rw [e, ha] at q3; cases q3)]
      exact q3
    · rw [List.getElem?_append_right z] at hj
      rw [List.getElem?_append_right (by rw [← w.len]; exact z)] at hm
      have hb := List.mem_singleton.mp (List.mem_of_getElem? hj)
      have hms := List.mem_singleton.mp (List.mem_of_getElem? hm)
      subst hb hms
      exact ⟨Aa.symm, a0, by rw [upd_ne Aa.symm, upd_same]; rfl⟩
abbrev rIns : V → List V → Hp → VK → Prop := fun x vs H Q => ∃ (l : Addr) (xs : List V) (i : Int) (y : V), x = .ref l ∧ vs = [.int i, y] ∧ H l = some (.lst xs) ∧ xs.length < sizeLine ∧ 0 ≤ i ∧ i < 2 ^ 63 ∧ Q .non (upd H l (.lst (xs.take i.toNat ++ [y] ++ xs.drop i.toNat)))
abbrev teRowE (K : PySem.W.Frag) (k : Nat) : TE := tOp (rIxL K) (tVar 2) (tOp (rI0 fun i j => V.int (i - j)) (tVar k) (tC (.int 1)))
abbrev teIns (K : PySem.W.Frag) (k k2 : Nat) : TE := tBM K "list" rIns (teRowE K k) (tCons (tCall spScoop [] E0 (tCons (tVar 0) (tCons (tOp (rI0 fun i j => V.int (i + j)) (tCB (Evl.rLenS K) (tCons (teRowE K k) tNil)) (tC (.int 1))) tNil))) (tCons (tVar k2) tNil))
theorem ev_rowE {K : PySem.W.Frag} {H0 G : Hp} {t c A a : Addr} {as : List Addr} {ts : List (List Int)} {n q k : Nat} {σ : L2.St} (w : Web0 H0 G t c A as ts n) (h2 : σ[2]? = some (some (.ref A))) (hk : σ[k]? = some (some (.int (1 + (q : Int))))) (ha : as[q]? = some a) : Evl.Ev (teRowE K k) σ G (.ref a) := by
  refine Evl.ev_op (Evl.ev_var h2) (Evl.ev_op (Evl.ev_var hk) Evl.ev_c Evl.rv_I0) (Evl.rv_ixL (Evl.sq_of w.lst) ?_)
  rw [show (1 : Int) + (q : Int) - 1 = (q : Int) by omega]
  exact atI_nat (by rw [List.getElem?_map, ha]; rfl)
theorem s_ins {K : PySem.W.Frag} {H0 G : Hp} {t c A : Addr} {as : List Addr} {ts : List (List Int)} {n q k k2 : Nat} {o : Int} {σ : L2.St} {D : Ends} (w : Web0 H0 G t c A as ts n) (T0 : ∃ k, Tub H0 t c k) (h0 : σ[0]? = some (some (.ref t))) (h2 : σ[2]? = some (some (.ref A))) (hk : σ[k]? = some (some (.int (1 + (q : Int))))) (hk2 : σ[k2]? = some (some (.int o)))
    (hq : q < ts.length) (hn : n ≤ 1000000) (hl : (ts[q]).length ≤ 1000) (go : ∀ (r : Nat) G', Web0 H0 G' t c A as (ts.set q (put r o ts[q])) (n + 1) → D.nx σ G') : tDrop (teIns K k k2) D σ G := by
  obtain ⟨a, ha⟩ : ∃ a, as[q]? = some a := ⟨_, List.getElem?_eq_getElem (by rw [w.len]; exact hq)⟩
  have hg : ts[q]? = some ts[q] := List.getElem?_eq_getElem hq
  obtain ⟨r1, r2, r3⟩ := w.row q a _ ha hg
  refine (ev_rowE (K := K) w h2 hk ha) G (Evl.Ex.refl _) _ fun G1 e1 => ?_
  have w1 := w.ex T0 e1
  have r31 := e1 _ _ r3
  refine ⟨.inl ⟨rfl, _, Evl.sq_of r31⟩, ?_⟩
  have hlen : Evl.Ev (tOp (rI0 fun i j => V.int (i + j)) (tCB (Evl.rLenS K) (tCons (teRowE K k) tNil)) (tC (.int 1))) σ G1 (.int (((ts[q].map V.int).length : Int) + 1)) := Evl.ev_op (Evl.ev_len (ev_rowE w1 h2 hk ha) (Evl.sq_of r31)) Evl.ev_c Evl.rv_I0
  refine ⟨.ref t, h0, hlen G1 (Evl.Ex.refl _) _ fun G2 e2 => ?_⟩
  have w2 := w1.ex T0 e2
  refine ⟨t, c, _, n, rfl, w2.tub, hn, by omega, by rw [List.length_map]; omega, fun r G3 p0 p1 k3 T3 => ⟨.int o, hk2, ?_⟩⟩
  have w3 := w2.go T0 k3 T3
  obtain ⟨_, _, r33⟩ := w3.row q a _ ha hg
  refine ⟨a, ts[q].map V.int, r, .int o, rfl, rfl, r33, by rw [List.length_map, sizeLine_eq]; omega, p0, by rw [List.length_map] at p1; omega, ?_⟩
  have w4 := w3.set (ns := put r.toNat o ts[q]) T0 ha hq
  have e4 : (put r.toNat o ts[q]).map V.int = (ts[q].map V.int).take r.toNat ++ [.int o] ++ (ts[q].map V.int).drop r.toNat := by
    unfold put
    rw [List.map_append, List.map_append, List.map_take, List.map_drop]
    rfl
  rw [e4] at w4
  exact go r.toNat _ w4
theorem sum_few {m : Nat} : ∀ {ts : List (List Int)}, (∀ t ∈ ts, t.length ≤ m) → (ts.map List.length).sum ≤ ts.length * m
  | [], _ => by simp
  | t :: r, h => by
    have := sum_few (ts := r) fun z hz => h z (List.mem_cons_of_mem _ hz)
    have h0 := h t List.mem_cons_self
    simp only [List.map_cons, List.sum_cons, List.length_cons, Nat.add_mul]
    omega
theorem Part.short {ts : List (List Int)} {j i : Nat} {ns : List Int} (h : Part ts j) (hi : ts[i]? = some ns) : ns.length ≤ ts.length := by
  obtain ⟨a, b, _⟩ := h.pl i ns hi
  exact nodup_len a b
abbrev nDr : List Str := ["kiosk", "many", "turns", "place", "other"]
theorem scDrawn : FnScope nDr ["kiosk"] (defScope sDrawn) := ⟨rfl, rfl, rfl, by decide +kernel, rfl, by decide +kernel, by decide +kernel⟩
def spDrawn : Sp := fun vs H Q _ => ∃ (t c : Addr) (n : Nat), vs = [.ref t] ∧ Tub H t c n ∧ n ≤ 900000 ∧ ∀ A as ts H', Web0 H H' t c A as ts (n + 200) → OkT ts → ts.length ≤ 8 → Q (.ref A) H'
section
variable {P : Program} {w : World} {K : PySem.W.Frag} {mg : Str → Option Value} {base : Heap}
set_option maxHeartbeats 2000000 in
theorem ok_drawn {f fS fP : Addr} {fd fdS fdP : FuncData} {k : Nat} (F : Fun K "_law_drawn" "_law_drawn" sDrawn f fd)
    (FS : Fun K "_law_ticket" "_law_ticket" sScoop fS fdS) (GS : FnOk P w K mg base CX0 k fS fdS ["kiosk", "many"] spScoop) (bS : Binds K fdS ["kiosk", "many"] []) (gS : mg "_law_ticket" = some (.ref fS))
    (FP : Fun K "_law_pick" "_law_pick" sPick fP fdP) (GP : FnOk P w K mg base CX0 k fP fdP ["kiosk", "some"] (spPick K)) (bP : Binds K fdP ["kiosk", "some"] []) (gP : mg "_law_pick" = some (.ref fP))
    (mlen : mg "len" = none) (mrange : mg "range" = none) : FnOk P w K mg base CX0 (k + 1) f fd ["kiosk"] spDrawn := by
  refine F.ok scDrawn (fun vs H Q E h => ?_) (fun cdv A0 outer s H vs Q E hr h => ?_)
  · obtain ⟨t, c, n, rfl, _⟩ := h
    rfl
  · obtain ⟨t, c, n, rfl, T0, hn, q⟩ := h
    have nd := scDrawn.nd
    refine ⟨_, pss_cons (ps_par (i := 1) (j := 2) (by rfl) nd rfl rfl (by decide) rfl rfl (pa_cons (pe_call GP hr (by rfl) gP FP.kp bP .nil pass0 (pa_cons (pv 0) (pa_cons (pe_lst (pa_cons pe_int (pa_cons pe_int (pa_cons pe_int (pa_cons pe_int (pa_cons pe_int (pa_cons pe_int (pa_cons pe_int pa_nil)))))))) pa_nil))) (pa_cons (pe_lst pa_nil) pa_nil)) (by rfl))
      (pss_cons (ps_for PassesOwn.never rfl (pi_range2 (by rfl) mrange (pa_cons pe_int (pa_cons (pe_op op_add (pv 1) pe_int) pa_nil))) (pg_name (i := 3) nd rfl (Or.inl rfl))
        (pss_cons (ps_expr (pe_bm PySem.F.plainAttrs_list PySem.F.slot_list_append PySem.F.type_list_append mt_append (pv 2) (pa_cons (pe_lst pa_nil) pa_nil)))
        (pss_one (ps_for PassesOwn.never rfl (pi_range2 (by rfl) mrange (pa_cons pe_int (pa_cons (pv 3) pa_nil))) (pg_name (i := 4) nd rfl (Or.inl rfl))
          (pss_one (ps_if (pt_truth (pe_call GP hr (by rfl) gP FP.kp bP .nil pass0 (pa_cons (pv 0) (pa_cons (pe_lst (pa_cons pe_bl (pa_cons pe_bl pa_nil))) pa_nil))) (by intro _; rfl))
            (pss_cons (ps_expr (pe_bm PySem.F.plainAttrs_list PySem.F.slot_list_insert PySem.F.type_list_insert mt_insert (pe_ix ix_list (pv 2) (pe_op op_sub (pv 3) pe_int) (fun _ _ => rfl)) (pa_cons (pe_call GS hr (by rfl) gS FS.kp bS .nil pass0 (pa_cons (pv 0) (pa_cons (pe_op op_add (pe_callB call_len_seq (by rfl) mlen PySem.boot_len (pa_cons (pe_ix ix_list (pv 2) (pe_op op_sub (pv 3) pe_int) (fun _ _ => rfl)) pa_nil)) pe_int) pa_nil))) (pa_cons (pv 4) pa_nil))))
            (pss_one (ps_expr (pe_bm PySem.F.plainAttrs_list PySem.F.slot_list_insert PySem.F.type_list_insert mt_insert (pe_ix ix_list (pv 2) (pe_op op_sub (pv 4) pe_int) (fun _ _ => rfl)) (pa_cons (pe_call GS hr (by rfl) gS FS.kp bS .nil pass0 (pa_cons (pv 0) (pa_cons (pe_op op_add (pe_callB call_len_seq (by rfl) mlen PySem.boot_len (pa_cons (pe_ix ix_list (pv 2) (pe_op op_sub (pv 4) pe_int) (fun _ _ => rfl)) pa_nil)) pe_int) pa_nil))) (pa_cons (pv 3) pa_nil)))))) pss_nil))))))
      (pss_one (ps_ret (pv 2)))), ?_⟩
    have TT0 : ∃ k, Tub H t c k := ⟨_, T0⟩
    refine ⟨.ref t, rfl, by show 7 ≤ sizeLine; rw [sizeLine_eq]; decide, fun l hl => ⟨t, c, l, _, n, rfl, T0.same (same_new hl), by omega, (T0.ne hl).1, .inl (.inl upd_same), by show 1 ≤ 7; omega, by show 7 ≤ 10000; omega, fun jj v H1 hj k1 T1 => ?_⟩⟩
    obtain ⟨m, rfl, m1, m8⟩ : ∃ m : Nat, v = .int (m : Int) ∧ 1 ≤ m ∧ m ≤ 8 := by
      have hm := List.mem_of_getElem? hj
      simp only [List.mem_cons, List.not_mem_nil, or_false] at hm
      rcases hm with e | e | e | e | e | e | e
      · exact ⟨4, e, by decide, by decide⟩
      · exact ⟨1, e, by decide, by decide⟩
      · exact ⟨2, e, by decide, by decide⟩
      · exact ⟨3, e, by decide, by decide⟩
      · exact ⟨5, e, by decide, by decide⟩
      · exact ⟨6, e, by decide, by decide⟩
      · exact ⟨8, e, by decide, by decide⟩
    refine ⟨Nat.zero_le _, fun A hA => ⟨_, _, rfl, ?_⟩⟩
    have k01 : Kept t H H1 := (Kept.of (same_new hl)).trans k1
    have A0 : H A = none := by
      cases z : H A with
      | none => rfl
      | some o =>
        by_cases e : A = t
        · obtain ⟨cs, turn, rest, ht, _⟩ := T1
          rw [e, ht] at hA
          cases hA
        · rw [k01 A o e z] at hA
          cases hA
    have w0 : Web0 H (upd H1 A (.lst [])) t c A [] [] (n + 1) := ⟨k01.trans (kept_ex (Evl.Ex.new hA)), upd_same, A0, rfl, List.nodup_nil, fun i a ns h => by simp at h, T1.ex (Evl.Ex.new hA)⟩
    dsimp only
    refine Evl.q_forR2 (lo := 1) (n := (m : Int) + 1) (Evl.ea_cons Evl.ev_c (Evl.ea_cons (Evl.ev_op (Evl.ev_var rfl) Evl.ev_c Evl.rv_I0) Evl.ea_nil)) ⟨by omega, by omega, by omega, by omega⟩
      (fun i σ' H' => ∃ y3 y4 as ts j, σ' = [some (.ref t), some (.int (m : Int)), some (.ref A), y3, y4] ∧ Web0 H H' t c A as ts (n + 1 + 24 * i) ∧ Part ts j ∧ ts.length = i)
      (fun H2 e2 => ⟨none, none, [], [], 0, rfl, w0.ex TT0 e2, ⟨fun i ns h => by simp at h, fun i ns o h => by simp at h, fun ns h => by simp at h⟩, rfl⟩) ?_ ?_
    · rintro i σ' H2 hi ⟨y3, y4, as, ts, j0, rfl, w2, p2, l2⟩
      have i8 : i < 8 := by omega
      refine ⟨.ref A, rfl, .inl ⟨rfl, _, Evl.sq_of w2.lst⟩, Nat.zero_le _, fun a ha => ?_⟩
      have Aa : A ≠ a := fun z => by rw [← z, w2.lst] at ha; cases ha
      refine ⟨A, as.map V.ref, .ref a, rfl, rfl, by rw [upd_ne Aa]; exact w2.lst, by rw [List.length_map, sizeLine_eq]; have := w2.len; omega, ?_⟩
      have w3 := w2.app TT0 ha
      have p3 := p2.app
      have l3 : (ts ++ [[]]).length = i + 1 := by rw [List.length_append, l2]; rfl
      generalize upd (upd H2 a (.lst [])) A (.lst (as.map V.ref ++ [.ref a])) = H3 at w3
      generalize as ++ [a] = as3 at w3
      generalize ts ++ [[]] = ts3 at w3 p3 l3
      clear w2 p2 l2 ha Aa
      refine Evl.s_forR2 (lo := 1) (n := (1 : Int) + (i : Int)) (Evl.ea_cons Evl.ev_c (Evl.ea_cons (Evl.ev_var rfl) Evl.ea_nil)) ⟨by omega, by omega, by omega, by omega⟩
        (fun j σ' H' => ∃ y4 as ts, σ' = [some (.ref t), some (.int (m : Int)), some (.ref A), some (.int (1 + (i : Int))), y4] ∧ Web0 H H' t c A as ts (n + 1 + 24 * i + 3 * j) ∧ Part ts j ∧ ts.length = i + 1)
        (fun H4 e4 => ⟨y4, as3, ts3, rfl, w3.ex TT0 e4, p3, l3⟩) ?_ ?_
      · rintro j σ' H4 hj ⟨y4, as4, ts4, rfl, w4, p4, l4⟩
        have ji : j < i := by omega
        refine ⟨.ref t, rfl, by show 2 ≤ sizeLine; rw [sizeLine_eq]; decide, fun l hl => ⟨t, c, l, _, n + 1 + 24 * i + 3 * j, rfl, w4.tub.same (same_new hl), by omega, (w4.tub.ne hl).1, .inl (.inl upd_same), by show 1 ≤ 2; omega, by show 2 ≤ 10000; omega, fun jj v H5 hj5 k5 T5 => ?_⟩⟩
        obtain ⟨b, rfl⟩ : ∃ b, v = .bl b := by
          have hm := List.mem_of_getElem? hj5
          simp only [List.mem_cons, List.not_mem_nil, or_false] at hm
          rcases hm with e | e <;> exact ⟨_, e⟩
        have w5 := w4.go TT0 ((Kept.of (same_new hl)).trans k5) T5
        clear hj5 k5 T5 hl w4
        refine ⟨b, rfl, if_go (fun _ => ?_) fun _ => ?_⟩
        · have si : (ts4[i]'(by omega)).length ≤ 1000 := by have := p4.short (List.getElem?_eq_getElem (show i < ts4.length by omega)); omega
          have e34 : i = ts4.length - 1 := by omega
          refine s_ins (q := i) (o := 1 + (j : Int)) w5 TT0 rfl rfl rfl rfl (by omega) (by omega) si fun r1 G1 w6 => ?_
          have hj6 : j < (ts4.set i (put r1 (1 + (j : Int)) (ts4[i]'(by omega)))).length := by rw [List.length_set]; omega
          have gj : (ts4.set i (put r1 (1 + (j : Int)) (ts4[i]'(by omega))))[j] = ts4[j]'(by omega) := List.getElem_set_ne (by omega) _
          have sj : ((ts4.set i (put r1 (1 + (j : Int)) (ts4[i]'(by omega))))[j]).length ≤ 1000 := by
            rw [gj]
            have := p4.short (List.getElem?_eq_getElem (show j < ts4.length by omega))
            omega
          refine s_ins (q := j) (o := 1 + (i : Int)) w6 TT0 rfl rfl rfl rfl hj6 (by omega) sj fun r2 G2 w7 => ?_
          refine ⟨_, as4, _, rfl, w7.go TT0 (Kept.refl t G2) (w7.tub.mono (by omega)), ?_, by rw [List.length_set, List.length_set]; exact l4⟩
          have pt := p4.tie (r := r1) (s := r2) (ns := ts4[i]'(by omega)) (ms := ts4[j]'(by omega)) (by omega) (by rw [← e34]; exact List.getElem?_eq_getElem _) (List.getElem?_eq_getElem _)
          rw [gj]
          rw [show (1 : Int) + (j : Int) = (j : Int) + 1 by omega, show (1 : Int) + (i : Int) = (ts4.length : Int) by omega]
          rw [← e34] at pt
          exact pt
        · exact ⟨_, as4, ts4, rfl, w5.go TT0 (Kept.refl t H5) (w5.tub.mono (by omega)), p4.skip, l4⟩
      · rintro σ' H4 ⟨y4', as4, ts4, rfl, w4, p4, l4⟩
        exact ⟨_, _, as4, ts4, _, rfl, w4.go TT0 (Kept.refl t H4) (w4.tub.mono (by omega)), p4, l4⟩
    · rintro σ' H2 ⟨y3, y4, as, ts, j, rfl, w2, p2, l2⟩
      have lm : ts.length = m := by omega
      refine ⟨.ref A, rfl, q A as ts H2 (w2.go TT0 (Kept.refl t H2) (w2.tub.mono (by omega))) ⟨by omega, by omega, p2.pl, p2.sym, ?_⟩ (by omega)⟩
      have hs := sum_few (m := 8) (ts := ts) fun u hu => by
        obtain ⟨i, hi, rfl⟩ := List.mem_iff_getElem.mp hu
        have := p2.short (List.getElem?_eq_getElem hi)
        omega
      omega
end
end P04
end S_Qr
section S_Qs
namespace P04
open PySem PySem.Spec PyProof.Rows L2 Tl Hk LamX
/-- by either rule -/
theorem pe_either {X : Cx} {e : Expr} {t1 t2 : TE} (h1 : PE X e t1) (h2 : PE X e t2) : PE X e (fun σ H Q => t1 σ H Q ∨ t2 σ H Q) := ⟨fun pins s σ H Q I h => h.elim (fun h => h1.run pins s σ H Q I h) fun h => h2.run pins s σ H Q I h⟩
abbrev nIW : List Str := ["value", "at", "row", "place"]
def spLIsWeb (K : PySem.W.Frag) : Sp := fun vs H Q _ => ∃ (v : V) (r : Option (List (Option (List V)))), vs = [v] ∧ TurnsD K H v r ∧ ∀ H1, Evl.Ex H H1 → Q (.bl (areV r)) H1
def bI : V → Bool
  | .int _ => true
  | _ => false
abbrev teLT (K : PySem.W.Frag) (j : Nat) : TE := tCB (rIsiT K) (tCons (tVar j) (tCons (tTup (tCons (tC (.ty "list")) (tCons (tC (.ty "tuple")) tNil))) tNil))
abbrev ttOdd (K : PySem.W.Frag) : L2.TT := tOr (tNot (tB (tCB (rIsi K) (tCons (tVar 3) (tCons (tC (.ty "int")) tNil))))) (tB (tCB (rIsi K) (tCons (tVar 3) (tCons (tC (.ty "bool")) tNil))))
abbrev teLe : R2 := rI0 fun i j => V.bl (decide (i ≤ j))
abbrev ttFar (K : PySem.W.Frag) : L2.TT := tOr (tNot (tTest (tChain teLe teLe (tC (.int 1)) (tVar 3) (tCB (Evl.rLenS K) (tCons (tVar 0) tNil))))) (tTest (tOp rEq (tVar 3) (tOp (rI0 fun i j => V.int (i + j)) (tVar 1) (tC (.int 1)))))
abbrev ttLone (K : PySem.W.Frag) : L2.TT := tTest (tOp (rIn K true) (tOp (rI0 fun i j => V.int (i + j)) (tVar 1) (tC (.int 1))) (tOp (rIxB K) (tVar 0) (tOp (rI0 fun i j => V.int (i - j)) (tVar 3) (tC (.int 1)))))
section
variable {K : PySem.W.Frag} {σ : L2.St} {H : Hp}
theorem Ty7.bI {v : V} {n : String} (h : Ty7 K H v n) : decide (n = "int") = bI v := by
  cases h <;> rfl
theorem ev_isLT {v : V} {n : String} {j : Nat} (h : Ty7 K H v n) (hj : σ[j]? = some (some v)) : Evl.Ev (teLT K j) σ H (.bl (decide (n = "list") || decide (n = "tuple"))) := fun H1 e Q q => by
  have h1 := h.ex e
  refine ⟨v, hj, (by show 2 ≤ sizeLine; decide), fun T hT => ⟨v, T, [.ty "list", .ty "tuple"], .type n, [.type "list", .type "tuple"], is7 n "list" || is7 n "tuple", rfl, upd_same, .cons (.ty _) (.cons (.ty _) .nil), (h1.ex (Evl.Ex.new hT)).tyx, ?_, ?_⟩⟩
  · refine kitAny_cons (h.kit (.inr (.inr (.inl rfl)))) (fun hb => kitAny_cons (h.kit (.inr (.inr (.inr rfl)))) (fun hb2 => ?_) fun hb2 => ?_) fun hb => ?_
    · rw [hb, hb2]; exact kitAny_nil
    · rw [hb2, Bool.or_true]
    · rw [hb, Bool.true_or]
  · show Q _ _
    rw [h.isSeq]
    exact q _ (Evl.Ex.new hT)
theorem et_odd {v : V} {n : String} (h : Ty7 K H v n) (h3 : σ[3]? = some (some v)) : Evl.EvT (ttOdd K) σ H (!bI v) := by
  refine Evl.et_is (Evl.et_or (Evl.et_not (Evl.et_B (Evl.ev_cb (Evl.ea_cons (Evl.ev_var h3) (Evl.ea_cons Evl.ev_c Evl.ea_nil)) (rc_isi h (.inl rfl))))) fun _ => Evl.et_B (Evl.ev_cb (Evl.ea_cons (Evl.ev_var h3) (Evl.ea_cons Evl.ev_c Evl.ea_nil)) (rc_isi h (.inr (.inl rfl))))) ?_
  rw [← Ty7.bI h, ← Ty7.isInt h]
  cases is7 n "int" <;> cases is7 n "bool" <;> rfl
end
section
open Evl
variable {σ : L2.St}
theorem et_chain {ta tb tc : TE} {H : Hp} {i j l : Int} (ha : Ev ta σ H (.int i)) (hb : Ev tb σ H (.int j)) (hc : Ev tc σ H (.int l)) : EvT (tTest (tChain (rI0 fun i j => V.bl (decide (i ≤ j))) (rI0 fun i j => V.bl (decide (i ≤ j))) ta tb tc)) σ H (decide (i ≤ j) && decide (j ≤ l)) := fun H1 e Q q =>
  ha H1 e _ fun H2 e2 => hb H2 (e.trans e2) _ fun H3 e3 => ⟨i, j, rfl, rfl, _, rfl, by
    cases z : decide (i ≤ j) with
    | true => exact hc H3 ((e.trans e2).trans e3) _ fun H4 e4 => ⟨j, l, rfl, rfl, _, rfl, by
        have := q H4 ((e2.trans e3).trans e4)
        rw [z, Bool.true_and] at this
        exact this⟩
    | false => exact ⟨_, rfl, by
        have := q H3 (e2.trans e3)
        rw [z, Bool.false_and] at this
        exact this⟩⟩
end
theorem given_empty {n : Nat} {f : Nat → Bool} {v : Nat → V} : (Evl.given n f v).isEmpty = (List.range n).all fun i => !f i := by
  unfold Evl.given
  rw [List.isEmpty_map]
  induction List.range n with
  | nil => rfl
  | cons i r ih =>
    rw [List.filter_cons, List.all_cons, ← ih]
    cases f i <;> rfl
theorem given_mem {n : Nat} {f : Nat → Bool} {v : Nat → V} {x : V} (h : x ∈ Evl.given n f v) : ∃ i, i < n ∧ x = v i := by
  unfold Evl.given at h
  obtain ⟨i, hi, rfl⟩ := List.mem_map.mp h
  exact ⟨i, List.mem_range.mp (List.mem_filter.mp hi).1, rfl⟩
theorem rng_all {ys : List V} {p : V → Bool} : ((List.range ys.length).all fun i => p (ys.getD i .non)) = ys.all p := by
  have e : (List.range ys.length).map (fun i => ys.getD i .non) = ys := by
    refine List.ext_getElem (by simp) fun i h1 h2 => ?_
    rw [List.getElem_map, List.getElem_range, List.getD_eq_getElem?_getD, List.getElem?_eq_getElem h2]
    rfl
  conv => rhs; rw [← e, List.all_map]
  rfl
theorem rngI_all {ns : List Int} {p : Int → Bool} : ((List.range ns.length).all fun i => p (ns.getD i 0)) = ns.all p := by
  have e : (List.range ns.length).map (fun i => ns.getD i 0) = ns := by
    refine List.ext_getElem (by simp) fun i h1 h2 => ?_
    rw [List.getElem_map, List.getElem_range, List.getD_eq_getElem?_getD, List.getElem?_eq_getElem h2]
    rfl
  conv => rhs; rw [← e, List.all_map]
  rfl
theorem all_bI : ∀ {ys : List V}, ys.all bI = true → ∃ ns : List Int, ys = ns.map V.int
  | [], _ => ⟨[], rfl⟩
  | y :: ys, h => by
    rw [List.all_cons, Bool.and_eq_true_iff] at h
    obtain ⟨ns, rfl⟩ := all_bI h.2
    cases y with
    | int i => exact ⟨i :: ns, rfl⟩
    | _ => exact absurd h.1 (by intro z; cases z)
theorem lot_bI {ys : List V} (h : lotV ys = true) : ys.all bI = true := by
  unfold lotV at h
  obtain ⟨ns, rfl⟩ := all_ints (Bool.and_eq_true_iff.mp h).1
  rw [List.all_map]
  exact List.all_eq_true.mpr fun i _ => rfl
/-- a turn, as the law looks -/
theorem turn_law (p m : Int) (ns : List Int) : turnV p m (some (ns.map V.int)) = ((ns.all fun x => !(!(decide (1 ≤ x) && decide (x ≤ m)) || decide (x = p))) && decide ns.Nodup) := by
  rw [turnV_ints]
  have e : lotV (ns.map V.int) = ((ns.all fun x => decide (1 ≤ x)) && decide ns.Nodup) := by
    unfold lotV
    rw [List.all_map]
    congr 1
    · exact congrArg (fun f => ns.all f) (funext fun x => by show (decide ((1 : Int) ≤ x) && true) = _; rw [Bool.and_true])
    · exact decide_eq_decide.mpr (nodup_int ns)
  rw [e]
  refine Bool.eq_iff_iff.mpr ?_
  simp only [Bool.and_eq_true, List.all_eq_true, decide_eq_true_eq, Bool.not_eq_true', Bool.or_eq_false_iff, Bool.not_eq_false', decide_eq_false_iff_not]
  constructor
  · rintro ⟨⟨⟨h1, h2⟩, h3⟩, h4⟩
    exact ⟨fun x hx => ⟨⟨h1 x hx, h4 x hx⟩, fun z => h3 (z ▸ hx)⟩, h2⟩
  · rintro ⟨h1, h2⟩
    exact ⟨⟨⟨fun x hx => (h1 x hx).1.1, h2⟩, fun z => (h1 p z).2 rfl⟩, fun x hx => (h1 x hx).1.2⟩
end P04
end S_Qs
section S_Xg
namespace EnL
open PySem PySem.Spec PyProof.Rows L2 Tl
/-! ### o.m(k=.., l=..) of an own instance -/
def tMethN (C : Addr) (m : Str) (n : Nat) (sp : Sp) (gV : List V → List V → List V) (E : XK) (ta : TE) (tk : TA) : TE := fun σ H Q => ta σ H fun x H1 => ∃ a dx fs, x = .ref a ∧ H1 a = some (.ins C dx fs) ∧ fs.lookup m = none ∧ tk σ H1 fun zs H2 => zs.length = n ∧ sp (gV [x] zs) H2 Q E
theorem pe_methN {X : Cx} {CX : CXT} {k : Nat} {f C : Addr} {fd : FuncData} {ps ks : List Str} {sp : Sp} {E : XK} {m : Str} {pos apos : Pos} {o : Expr} {kws : List Keyword} {ta : TE} {tk : TA} {g : List Value → List Value → List Value} {gV : List V → List V → List V} {pl : Sem Bool}
    (ho : PE X o ta) (c : Cls X.K C) (hm : Meth X.K C m f) (F : FnOk X.prog X.w X.K X.mg X.base CX k f fd ps sp) (hr : Room k X.A) (hb : KBn X.K fd ps 1 ks g gV) (hx : Passes CX X E) (hkw : PK X kws tk)
    (hall : (backToKw pos (keywordEach kws X.env)).all (·.1.isSome) = true := by rfl) (hks : (backToKw pos (keywordEach kws X.env)).filterMap (·.1) = ks := by rfl)
    (hpl : ((backTo pos (starEach [] X.env)).any (·.1) || (backToKw pos (keywordEach kws X.env)).any (·.1.isNone)) = false := by rfl)
    (he : eval (.Call (.Attribute o m apos) [] kws pos) X.env = (do
      let ov ← eval o X.env
      standAt apos.atName
      let __x ← holding [ov] (getMethod ov m pl)
      match __x with
        | (f, first) => callWith pos f first (backTo pos (starEach [] X.env)) (backToKw pos (keywordEach kws X.env))) := by rfl) :
    PE X (.Call (.Attribute o m apos) [] kws pos) (tMethN C m ks.length sp gV E ta tk) := by
  constructor
  intro pins s σ H Q I h
  rw [he]
  refine wpAny_bind (thn (ho.run pins s σ H _ I h) fun v s1 hv => ?_)
  obtain ⟨x, H1, I1, rx, a, dx, fs, rfl, ha, hl, hk⟩ := hv
  obtain rfl := rx
  refine wpAny_bind (wpAny_standAt ?_)
  refine wpAny_bind (wpAny_holding ?_)
  obtain ⟨mA, J, rl, _⟩ := ins_get I1.hok ha
  have hmA : mA m = none := by
    have := rl m
    rw [hl] at this
    cases z : mA m with
    | none => rfl
    | some u => rw [z] at this; cases this
  refine get_meth I1.kIn J (c.get m) hm.at_ hm.fn hmA ?_
  refine PySem.W.callWith_KW0 (h₀ := X.base) I1.ok.mod.kin hm.kp hall (thn (hkw.run pos pins s1 σ H1 _ I1 hk) fun ws s2 hv => ?_) hpl
  obtain ⟨zs, H2, I2, rz, l2, q2⟩ := hv
  refine ⟨I2.kIn, ?_⟩
  rw [hks]
  exact run_fnN (us := [.ref a]) (vs := [.ref a]) F hr hb hx I2 (.cons rfl .nil) rz rfl l2 q2
/-! ### C(k=..) -/
def tMakeN (C : Addr) (n : Nat) (sp : Sp) (gV : List V → List V → List V) (E : XK) (tk : TA) : TE := fun σ H Q => tk σ H fun zs H1 => zs.length = n ∧ ∀ x dx, H1 x = none → H1 dx = none → dx ≠ x → sp (gV [.ref x] zs) (upd (upd H1 dx (.own x)) x (.ins C dx [])) (fun v H2 => v = .non ∧ Q (.ref x) H2) E
theorem pe_makeN {X : Cx} {CX : CXT} {k : Nat} {f C : Addr} {fd : FuncData} {ps ks : List Str} {sp : Sp} {E : XK} {x : Str} {p pos : Pos} {kws : List Keyword} {tk : TA} {g : List Value → List Value → List Value} {gV : List V → List V → List V}
    (M : Mk X.K C f) (F : FnOk X.prog X.w X.K X.mg X.base CX k f fd ps sp) (hr : Room (k + 1) X.A) (hg : Gl X x) (hm : X.mg x = some (.ref C)) (hb : KBn X.K fd ps 1 ks g gV) (hx : Passes CX X E)
    (hkw : PK X kws tk) (hall : (backToKw pos (keywordEach kws X.env)).all (·.1.isSome) = true := by rfl) (hks : (backToKw pos (keywordEach kws X.env)).filterMap (·.1) = ks := by rfl) (hdb : (x == ("__debug__" : Str)) = false := by decide)
    (hpl : ((backTo pos (starEach [] X.env)).any (·.1) || (backToKw pos (keywordEach kws X.env)).any (·.1.isNone)) = false := by rfl) :
    PE X (.Call (.Name x p) [] kws pos) (tMakeN C ks.length sp gV E tk) := by
  constructor
  intro pins s σ H Q I h
  refine wpAny_Call_Name_kw (ld_glob I hg hm (PySem.W.callWith_KW0 (h₀ := X.base) I.ok.mod.kin M.kp hall (thn (hkw.run pos pins s σ H _ I h) fun ws s2 hv => ?_) hpl) hdb)
  obtain ⟨zs, H2, I2, rz, l2, q2⟩ := hv
  refine ⟨I2.kIn, ?_⟩
  rw [hks]
  have n1 : H2 (s2.heap.objs.size + 1) = none := I2.hok.fresh (Nat.le_succ _)
  have n2 : H2 s2.heap.objs.size = none := I2.hok.fresh (Nat.le_refl _)
  have q3 := q2 (s2.heap.objs.size + 1) s2.heap.objs.size n1 n2 (Nat.ne_of_lt (Nat.lt_succ_self _))
  have I3 := I2.made (C := C)
  have r2 : Vals (gV [.ref (s2.heap.objs.size + 1)] zs) (g [.ref (s2.heap.objs.size + 1)] ws) := hb.rel (.cons rfl .nil) rz
  refine wpAny_call (Att.make_obj I2.kIn M.makes M.init M.fn (codeAny_mono (F.run _ X.stack _ _ ⟨[.ref (s2.heap.objs.size + 1)], ks.zip ws⟩ _ _ _ E (Room.make hr C [] _) ?_ (hb.to _ [.ref (s2.heap.objs.size + 1)] ws I3.kIn rfl (rz.length.symm.trans l2)) r2 q3) fun r s' hq => ?_))
  · have e := I3.env0
    exact ⟨e.frames, e.mod, e.bs, e.bsz, e.funs, e.frf, e.hok, e.bare⟩
  · cases r with
    | error e => exact hx pins σ _ _ e s' I3 hq
    | ok fl =>
      cases fl with
      | ret u =>
        obtain ⟨v, H', I', rv, hv, q⟩ := I3.after hq
        subst hv
        exact ⟨rv, .ref _, H', I', rfl, q⟩
      | next => exact False.elim hq
      | brk => exact False.elim hq
      | cont => exact False.elim hq
end EnL
end S_Xg
section S_Qu
namespace P04
open PySem PySem.Spec PyProof.Rows L2 Tl Hk LamX EnL
/-! ### good turns are let -/
theorem turn_of {p m : Int} {ns : List Int} (h1 : ns.Nodup) (h2 : ∀ x ∈ ns, 1 ≤ x ∧ x ≤ m) (h3 : p ∉ ns) : turnV p m (some (ns.map V.int)) = true := by
  rw [turn_law, Bool.and_eq_true_iff]
  refine ⟨List.all_eq_true.mpr fun x hx => ?_, decide_eq_true h1⟩
  obtain ⟨a, b⟩ := h2 x hx
  have c : x ≠ p := fun z => h3 (by rw [← z]; exact hx)
  rw [decide_eq_true a, decide_eq_true b, decide_eq_false c]
  rfl
theorem are_of {ts : List (List Int)} (h : OkT ts) : areV (some (valsOf ts)) = true := by
  have hlen : (valsOf ts).length = ts.length := List.length_map ..
  have p1 := h.pos
  have p2 := h.most
  have at_ : ∀ i, i < ts.length → ∃ ns, ts[i]? = some ns ∧ (valsOf ts).getD i none = some (ns.map V.int) := fun i hi => ⟨_, List.getElem?_eq_getElem hi, valsOf_at (List.getElem?_eq_getElem hi)⟩
  have row : ∀ i ns, ts[i]? = some ns → rowAt (valsOf ts) i = ns.map V.int := fun i ns hn => by
    unfold rowAt
    rw [valsOf_at hn]
    rfl
  have hall : allTurn (valsOf ts) = true := List.all_eq_true.mpr fun i hi => by
    obtain ⟨ns, e1, e2⟩ := at_ i (by have := List.mem_range.mp hi; omega)
    obtain ⟨a, b, c⟩ := h.pl i ns e1
    rw [e2, hlen]
    exact turn_of a b c
  have hsym : symV (valsOf ts) = true := List.all_eq_true.mpr fun i hi => by
    obtain ⟨ns, e1, e2⟩ := at_ i (by have := List.mem_range.mp hi; omega)
    rw [row i ns e1]
    refine List.all_eq_true.mpr fun j hj => ?_
    have hj2 : j < ns.length := by have := List.mem_range.mp hj; rwa [List.length_map] at this
    rw [ints_getD hj2, List.getD_eq_getElem?_getD, List.getElem?_eq_getElem hj2]
    obtain ⟨ms, m1, m2⟩ := h.sym i ns ns[j] e1 (List.getElem_mem hj2)
    show (rowAt (valsOf ts) (ns[j] - 1).toNat).contains (.int ((i : Int) + 1)) = true
    rw [row _ ms m1, contains_int]
    exact decide_eq_true m2
  show (decide (1 ≤ (valsOf ts).length) && decide ((valsOf ts).length ≤ 1000) && allTurn (valsOf ts) && symV (valsOf ts)) = true
  rw [hall, hsym, decide_eq_true (by omega), decide_eq_true (by omega)]
  rfl
theorem int_dps {K : PySem.W.Frag} {H : Hp} (i : Int) : DpS K H (.int i) := ⟨.int i, .int i, by unfold PyData.canLay0; rfl, by unfold PyData.depth; omega⟩
theorem row_ints {K : PySem.W.Frag} {H : Hp} {a : Addr} {ns : List Int} (h : SqP H a (ns.map V.int)) (hl : ns.length ≤ 1000) : RowD K H (.ref a) (some (ns.map V.int)) := .seq h (by rw [List.length_map]; exact hl) fun v hv => by
  obtain ⟨i, _, rfl⟩ := List.mem_map.mp hv
  exact ⟨⟨_, .int i⟩, int_dps i⟩
theorem RowsAt.turns {K : PySem.W.Frag} {H : Hp} {a : Addr} {ts : List (List Int)} (h : RowsAt H a ts) (hT : OkT ts) : TurnsD K H (.ref a) (some (valsOf ts)) := by
  obtain ⟨xs, h1, h2, h3⟩ := h
  have p2 := hT.most
  have hlen : (valsOf ts).length = ts.length := List.length_map ..
  refine .seq h1 (by omega) (by omega) (fun i v r hv hr => ?_) ?_
  · have hi : i < ts.length := by
      have := (List.getElem?_eq_some_iff.mp hv).1
      omega
    obtain ⟨ai, e, hs⟩ := h3 i _ (List.getElem?_eq_getElem hi)
    rw [e] at hv
    cases hv
    have hr2 : (valsOf ts)[i]? = some (some ((ts[i]).map V.int)) := by
      unfold valsOf
      rw [List.getElem?_map, List.getElem?_eq_getElem hi]
      rfl
    rw [hr2] at hr
    cases hr
    exact row_ints hs (hT.short (List.getElem?_eq_getElem hi))
  · have : (valsOf ts).map (fun r => (r.getD []).length) = ts.map List.length := by
      unfold valsOf
      rw [List.map_map]
      exact List.map_congr_left fun ns _ => List.length_map ..
    rw [this]
    exact hT.few
theorem Web0.rows {H0 H : Hp} {t c A : Addr} {as : List Addr} {ts : List (List Int)} {n : Nat} (w : Web0 H0 H t c A as ts n) : RowsAt H A ts :=
  ⟨as.map V.ref, .inl w.lst, by rw [List.length_map, w.len], fun i ns hn => by
    have hi := (List.getElem?_eq_some_iff.mp hn).1
    have ha : as[i]? = some (as[i]'(by rw [w.len]; exact hi)) := List.getElem?_eq_getElem _
    exact ⟨_, by rw [List.getElem?_map, ha]; rfl, .inl (w.row i _ ns ha hn).2.2⟩⟩
end P04
end S_Qu
section S_Wi
/-! a lambda with one parameter, its default a constant, handed to a def that calls it without arguments -/
namespace LamX
open PySem PySem.Spec PyProof.Rows L2
/-- the function object of such a lambda: dv its defaults -/
abbrev dfFd (q : Str) (ps : Arguments) (bd : Expr) (sc : Scope) (cl : List (Str × Addr)) (dv pm cv ct : Value) : FuncData :=
  { PySem.W.kla_fn "<lambda>" q ps bd sc cl pm cv ct with defaults := dv }
abbrev dfObj (fd : FuncData) : Obj := { cls := .type "function", data := .func fd }
abbrev dfTup (v : Value) : Obj := { cls := .type "tuple", data := .seq #[v] }
abbrev dfArgs (x : Str) (ap : Pos) (e : Expr) : Arguments := { posonlyargs := [], args := [{ arg := x, annotation := none, pos := ap }], vararg := none, kwonlyargs := [], kw_defaults := [], kwarg := none, defaults := [e] }
section
variable {M : Model} {A : Around} {E : Value → Shared → Prop} {s : Shared} {q : Str} {ap : Arguments} {bd : Expr} {sc : Scope} {env : Env} {c P : Addr} {tr : Array Value} {pos : Pos} {fl : Nat} {mg : Str → Option Value}
  {cl : List (Str × Addr)} {dv : Value} {Q : Value → Shared → Prop}
theorem clo_tup {its : List Value} {b : Bool} {jp : Value → Sem Value} (h : ∀ (v : Value) (hh : Heap), (∀ a o, s.heap.get? a = some o → hh.get? a = some o) → s.heap.objs.size ≤ hh.objs.size → wpAny M A (jp v) Q E { s with heap := hh }) :
    wpAny M A (if b = true then pure Value.none >>= jp else newTextTuple its >>= jp) Q E s := by
  cases b with
  | true => exact wpAny_bind (wpAny_pure (h .none s.heap (fun _ _ e => e) (Nat.le_refl _)))
  | false => exact wpAny_bind (wpAny_newTextTuple (h _ _ (fun _ _ e => Heap.get?_push_of_some _ e) (by rw [Heap.size_push]; omega)))
/-- the object is made: its code object is new -/
theorem df_miss (h1 : closureFor sc env = pure cl) (h2 : env.globals = mainGlobals) (h3 : s.heap.Ns mainGlobals mg) (h4 : env.code = .ref c) (h5 : PySem.W.CodeHd s.heap c P) (h6 : s.heap.get? P = some (PySem.W.tabObj tr)) (h7 : TriplesOk tr.toList)
    (h8 : codeAmong pos tr.toList = none) (h9 : mainGlobals ≠ P) (hb : s.heap.BuiltinsAt mg P)
    (k : ∀ c' ct hh tk, Heap.ExtBut P s.heap hh → s.heap.objs.size ≤ c' → c' < hh.objs.size → hh.CodeRec (.ref c') q → hh.get? P = some (PySem.W.tabObj (tr ++ #[rawInt pos.line, rawInt pos.col, .ref c'])) →
      Q (.ref hh.objs.size) { s with heap := hh.push (dfObj (dfFd q ap bd sc cl dv ((mg "__name__").getD .none) (.ref c') ct)), toks := tk }) : wpAny M A (makeTail "<lambda>" q ap (.expr bd) sc env dv .none none pos fl) Q E s := by
  obtain ⟨bm, ob, b1, b2, _, b3, b4, b5, b6, b7⟩ := hb
  unfold makeTail
  rw [h1, h2]
  refine wpAny_bind (wpAny_pure ?_)
  refine clo_tup fun ct h0 k0 sz => ?_
  refine wpAny_bind (wpAny_functionCodeX h4 ((h5.keeps k0).code (k0 _ _ h6) h7) ((h5.keeps k0).tab (k0 _ _ h6)) h8 fun c' hh tk hx ge lt _ hrec htb _ => ?_)
  have g' := (h3.keeps k0).extBut hx h9
  have x' : Heap.ExtBut P s.heap hh := fun b o n e => hx b o n (k0 b o e)
  refine wpAny_bind (wpAny_builtinsFor g' b1 b2 (x' _ _ b3 b4) b5 b6 b7 (wpAny_bind (wpAny_nsGet g' ?_)))
  exact wpAny_bind (wpAny_pure (wpAny_newObj_type (k c' ct hh tk x' (Nat.le_trans sz ge) lt hrec htb.2) (by size_fits)))
/-- its code object stands in the table -/
theorem df_hit {cv : Value} (h1 : closureFor sc env = pure cl) (h2 : env.globals = mainGlobals) (h3 : s.heap.Ns mainGlobals mg) (h4 : env.code = .ref c) (h5 : PySem.W.CodeHd s.heap c P) (h6 : s.heap.get? P = some (PySem.W.tabObj tr)) (h7 : TriplesOk tr.toList)
    (h8 : codeAmong pos tr.toList = some cv) (hb : s.heap.BuiltinsAt mg P)
    (k : ∀ (ct : Value) (hh : Heap) (tk : Tok), (∀ a o, s.heap.get? a = some o → hh.get? a = some o) → s.heap.objs.size ≤ hh.objs.size → Q (.ref hh.objs.size) { s with heap := hh.push (dfObj (dfFd q ap bd sc cl dv ((mg "__name__").getD .none) cv ct)), toks := tk }) :
    wpAny M A (makeTail "<lambda>" q ap (.expr bd) sc env dv .none none pos fl) Q E s := by
  obtain ⟨bm, ob, b1, b2, _, b3, b4, b5, b6, b7⟩ := hb
  unfold makeTail
  rw [h1, h2]
  refine wpAny_bind (wpAny_pure ?_)
  refine clo_tup fun ct h0 k0 sz => ?_
  refine wpAny_bind (wpAny_functionCode_hit h4 ((h5.keeps k0).code (k0 _ _ h6) h7) h8 ?_)
  refine wpAny_bind (wpAny_builtinsFor (h3.keeps k0) b1 b2 (k0 _ _ b4) b5 b6 b7 (wpAny_bind (wpAny_nsGet (h3.keeps k0) ?_)))
  exact wpAny_bind (wpAny_pure (wpAny_newObj_type (k ct h0 s.toks k0 sz) (by size_fits)))
end
section
variable {X : Cx} {pins : List (Addr × Obj)} {σ : L2.St} {H : Hp} {s : Shared}
/-- the whole making -/
theorem lam_makeD {T : List (Addr × Str)} {c P : Addr} {x : Str} {ap : Pos} {e : Expr} {bd : Expr} {sc : Scope} {pos : Pos} {E : Value → Shared → Prop} {Q : Value → Shared → Prop} (I : Inv X pins σ H s) (TB : TabB X.base X.mg c P) (hcode : X.env.code = .ref c) (he : e.isPlainConst = true)
    (hm : (P, X.env.qual ++ "<lambda>") ∈ T) (hu : ∀ p ∈ T, p.1 = P → p.2 = X.env.qual ++ "<lambda>") (hT : Tabs T H) (hfree : ∀ y ∈ sc.names, y.2 = .free → ∃ c, X.env.cells.lookup y.1 = some c)
    (k : ∀ (f c' d : Addr) (v pm ct : Value) (H1 : Hp) (s' : Shared), Inv X pins σ H1 s' → ExtN H H1 → Tabs T H1 → s'.heap.get? f = some (dfObj (dfFd (X.env.qual ++ "<lambda>") (dfArgs x ap e) bd sc (cloFrom X.env.cells sc.names []) (.ref d) pm (.ref c') ct)) →
      s'.heap.get? d = some (dfTup v) → H1 f = none → H1 d = none → f ∉ frs X.stack → d ∉ frs X.stack → H1 c' = some (CodeO c' (X.env.qual ++ "<lambda>")) → Q (.ref f) s') :
    wpAny (model X.prog X.w) X.A (eval (.Lambda (dfArgs x ap e) bd sc pos) X.env) Q E s := by
  obtain ⟨tr, hP, ht, ha⟩ := hT _ hm
  rw [arm_eval_Lambda]
  show wpAny (model X.prog X.w) X.A (do let dv ← evalAll (evalEach [e] X.env); let kdv ← holding dv (evalAllOpt []); makeFunction "<lambda>" (X.env.qual ++ "<lambda>") (dfArgs x ap e) (.expr bd) sc X.env dv kdv [] pos pos.line) Q E s
  refine wpAny_bind (wpAny_evalAll_consts [e] s _ (fun z hz => by rw [List.mem_singleton.mp hz]; exact he) fun vs tk cv => ?_)
  obtain ⟨v, rfl⟩ : ∃ v, vs = [v] := by
    match vs, cv with
    | [v], _ => exact ⟨v, rfl⟩
    | _ :: _ :: _, cv => exact cv.2.elim
  refine wpAny_bind (wpAny_holding (wpAny_pure ?_))
  rw [makeFunction_eq]
  simp only [List.zip_nil_left, List.filterMap_nil, List.isEmpty_nil, List.isEmpty_cons, if_true, if_false, Bool.false_eq_true, pure_bind]
  refine wpAny_bind (wpAny_newTextTuple ?_)
  have nofr : ∀ f, s.heap.objs.size ≤ f → f ∉ frs X.stack := fun f hf z => by
    rcases List.mem_cons.mp (I.stkSub _ z) with e' | e'
    · have w := I.lt
      rw [← e'] at w
      exact Nat.lt_irrefl _ (Nat.lt_of_lt_of_le w hf)
    · exact I.nofs hf e'
  have hd : H s.heap.objs.size = none := I.hok.fresh (Nat.le_refl _)
  have dP : s.heap.objs.size ≠ P := fun z => by rw [z, hP] at hd; cases hd
  have I0 : Inv X pins σ H { s with heap := s.heap.push (dfTup v), toks := tk } := I.kept fun b o z => Heap.get?_push_of_some _ z
  have d0 : (s.heap.push (dfTup v)).get? s.heap.objs.size = some (dfTup v) := Heap.get?_push_size _ rfl
  have sz0 : s.heap.objs.size ≤ (s.heap.push (dfTup v)).objs.size := by rw [Heap.size_push]; omega
  have bP : (s.heap.push (dfTup v)).BuiltinsAt X.mg P := TB.bm.keeps I0.bk
  have hP' : (s.heap.push (dfTup v)).get? P = some { cls := .none, data := .fields tr } := I0.hok P _ hP
  cases hc : codeAmong pos tr.toList with
  | none =>
    refine df_miss (s := { s with heap := s.heap.push (dfTup v), toks := tk }) (mg := X.mg) (c := c) (P := P) (tr := tr) (closure_ok hfree) I.ok.glob (I.mod.glob.keeps I0.bk) hcode (TB.code.keeps I0.bk) hP' ht hc TB.gP bP fun c' ct hh tk' hx ge lt hrec htb => ?_
    obtain ⟨c2, oc, vs, t, e2, hoc, hdt, hv⟩ := hrec
    cases e2
    have ge' : (s.heap.push (dfTup v)).objs.size ≤ c' := ge
    have nC : H c' = none := I.hok.fresh (Nat.le_trans sz0 ge')
    have szh : (s.heap.push (dfTup v)).objs.size ≤ hh.objs.size := Nat.le_trans ge' (Nat.le_of_lt lt)
    have dc : s.heap.objs.size ≠ c' := fun z => by rw [← z, Heap.size_push] at ge'; omega
    have df : s.heap.objs.size ≠ hh.objs.size := fun z => by rw [← z, Heap.size_push] at szh; omega
    have I1 := inv_table (t' := tk') (more := #[rawInt pos.line, rawInt pos.col, .ref c']) (h' := hh.push (dfObj (dfFd (X.env.qual ++ "<lambda>") (dfArgs x ap e) bd sc (cloFrom X.env.cells sc.names []) (.ref s.heap.objs.size) ((X.mg "__name__").getD .none) (.ref c') ct))) I0 hP
      (fun b o hb z => Heap.get?_push_of_some _ (hx b o hb z)) (Heap.get?_push_of_some _ htb) ge ⟨oc, vs, t, Heap.get?_push_of_some _ hoc, hdt, hv⟩
    have hE : ExtN H (upd (upd H P (.tbl (tr ++ #[rawInt pos.line, rawInt pos.col, .ref c']))) c' (CodeO c' (X.env.qual ++ "<lambda>"))) := fun b o z n => by
      have bP' : b ≠ P := fun y => n tr (Option.some.inj (z.symm.trans (by rw [y]; exact hP)))
      rw [upd_ne (ne_of_none z nC), upd_ne bP']
      exact z
    have eL : (tr ++ #[rawInt pos.line, rawInt pos.col, .ref c']).toList = tr.toList ++ [rawInt pos.line, rawInt pos.col, .ref c'] := by simp
    have off : ∀ {b : Addr}, b ≠ c' → b ≠ P → H b = none → upd (upd H P (.tbl (tr ++ #[rawInt pos.line, rawInt pos.col, .ref c']))) c' (CodeO c' (X.env.qual ++ "<lambda>")) b = none := fun n1 n2 n3 => by rw [upd_ne n1, upd_ne n2]; exact n3
    refine k hh.objs.size c' s.heap.objs.size v ((X.mg "__name__").getD .none) ct _ _ I1 hE (fun p hp => ?_) (Heap.get?_push_size _ rfl) (Heap.get?_push_of_some _ (hx _ _ dP d0)) (off (Nat.ne_of_gt lt) (Nat.ne_of_gt (Nat.lt_of_lt_of_le (Heap.lt_size hP') szh)) (I.hok.fresh (Nat.le_trans sz0 szh))) (off dc dP hd) (nofr _ (Nat.le_trans sz0 szh)) (nofr _ (Nat.le_refl _)) upd_same
    by_cases hb : p.1 = P
    · rw [hu p hp hb, hb]
      refine ⟨_, by rw [upd_ne (ne_of_none hP nC), upd_same], by rw [eL]; exact PySem.TriplesOk_snoc _ _ _ _ ht, fun p' cv' hcv => ?_⟩
      rw [eL] at hcv
      rcases among_app _ ht hcv with z | z
      · obtain ⟨c0, y1, y2⟩ := ha p' cv' z
        exact ⟨c0, y1, hE _ _ y2 codeO_ne⟩
      · exact ⟨c', z, upd_same⟩
    · obtain ⟨tr2, a1, a2, a3⟩ := hT p hp
      refine ⟨tr2, by rw [upd_ne (ne_of_none a1 nC), upd_ne hb]; exact a1, a2, fun p' cv' hcv => ?_⟩
      obtain ⟨c0, y1, y2⟩ := a3 p' cv' hcv
      exact ⟨c0, y1, hE _ _ y2 codeO_ne⟩
  | some cv =>
    obtain ⟨c', y, hco⟩ := ha pos cv hc
    subst y
    refine df_hit (s := { s with heap := s.heap.push (dfTup v), toks := tk }) (mg := X.mg) (c := c) (P := P) (tr := tr) (closure_ok hfree) I.ok.glob (I.mod.glob.keeps I0.bk) hcode (TB.code.keeps I0.bk) hP' ht hc bP fun ct hh tk' hx szh => ?_
    have I1 : Inv X pins σ H { s with heap := hh.push (dfObj (dfFd (X.env.qual ++ "<lambda>") (dfArgs x ap e) bd sc (cloFrom X.env.cells sc.names []) (.ref s.heap.objs.size) ((X.mg "__name__").getD .none) (.ref c') ct)), toks := tk' } := I0.kept fun b o z => Heap.get?_push_of_some _ (hx b o z)
    exact k hh.objs.size c' s.heap.objs.size v ((X.mg "__name__").getD .none) ct H _ I1 (ExtN.refl H) hT (Heap.get?_push_size _ rfl) (Heap.get?_push_of_some _ (hx _ _ d0)) (I.hok.fresh (Nat.le_trans sz0 szh)) hd (nofr _ (Nat.le_trans sz0 szh)) (nofr _ (Nat.le_refl _)) hco
end
/-- its names: the parameter x alone is its own -/
structure LamSD (sc scope : Scope) (x : Str) : Prop where
  kind : scope.kind = .function
  co : scope.isCoroutine = false
  gen : scope.isGenerator = false
  own : ∀ y ∈ scope.names, (y.2 = .local → y.1 = x) ∧ y.2 ≠ .cell
  loc : scope.names.lookup x = some .local
  free : ∀ y ∈ scope.names, y.2 = .free → sc.names.lookup y.1 = some .cell ∨ sc.names.lookup y.1 = some .free
def lamSDB (sc scope : Scope) (x : Str) : Bool :=
  decide (scope.kind = .function) && (!scope.isCoroutine && (!scope.isGenerator && (decide (scope.names.lookup x = some .local) && scope.names.all fun y => (!decide (y.2 = .local) || decide (y.1 = x)) && (!decide (y.2 = .cell) && (!decide (y.2 = .free) || (decide (sc.names.lookup y.1 = some .cell) || decide (sc.names.lookup y.1 = some .free)))))))
theorem lamSD_by {sc scope : Scope} {x : Str} (h : lamSDB sc scope x = true) : LamSD sc scope x := by
  unfold lamSDB at h
  simp only [Bool.and_eq_true, Bool.or_eq_true, Bool.not_eq_true', decide_eq_true_eq, decide_eq_false_iff_not, List.all_eq_true] at h
  obtain ⟨a1, a2, a3, a4, a5⟩ := h
  exact ⟨a1, a2, a3, fun y hy => ⟨fun e => (a5 y hy).1.elim (fun n => absurd e n) id, (a5 y hy).2.1⟩, a4, fun y hy e => (a5 y hy).2.2.elim (fun n => absurd e n) id⟩
theorem LamSD.has {X : Cx} {scope : Scope} {x : Str} (L : LamSD X.env.scope scope x) (ok : X.Ok) : ∀ y ∈ scope.names, y.2 = .free → ∃ c, X.env.cells.lookup y.1 = some c := fun y hy e =>
  (L.free y hy e).elim (fun z => ok.has _ (.inl z)) fun z => ok.has _ (.inr z)
section
variable {X : Cx} {pins : List (Addr × Obj)} {σ : L2.St} {H HZ : Hp} {s s1 : Shared}
theorem lam_startD {A : Around} {outer : List Env} {E : XK} {scope : Scope} {f c' : Addr} {h₁ : Heap} {tk : Nat} {x : Str} {v : Value} (I : Inv X pins σ H s) (L : LamSD X.env.scope scope x) (hx : x ∉ X.N) (z0 : Env0 X.prog X.w X.K X.mg X.base A outer s1 HZ) (z1 : A.handled = none)
    (un : Un (frs X.stack) [] H HZ s.heap s1.heap) (ns : h₁.Ns s1.heap.objs.size fun y => ([(x, v)] : List (Str × Value)).reverse.lookup y) (kp : ∀ b o, s1.heap.get? b = some o → h₁.get? b = some o) :
    Inv (lamCx X A outer s1 HZ E scope f c') [] σ HZ { s1 with heap := h₁, toks := tk } := by
  have hfree := L.has I.ok
  have cm : ∀ {y c}, (cloFrom X.env.cells scope.names []).lookup y = some c → X.env.cells.lookup y = some c := fun {y c} e => by
    rcases cloFrom_mem (PySem.mem_of_lookup e) with m | ⟨m1, m2⟩
    · cases m
    · obtain ⟨c1, hc⟩ := hfree _ m1 rfl
      have hc : X.env.cells.lookup y = some c1 := hc
      obtain rfl : c = c1 := by rw [m2, hc] <;> rfl
      exact hc
  have look : ∀ {y}, scope.names.lookup y = some .free → ∃ c, (cloFrom X.env.cells scope.names []).lookup y = some c := fun {y} m =>
    mem_lookup (cloFrom_has (cells := X.env.cells) (acc := []) (show (y, NameKind.free) ∈ scope.names from PySem.mem_of_lookup m))
  have cellK : ∀ {c : Addr} {u : Option Value}, H c = none → s.heap.IsCell c u → h₁.IsCell c u := fun {c u} n ⟨o, ho, hd⟩ => by
    obtain ⟨sl, w⟩ := un.any ho n (by simp)
    exact ⟨_, kp _ _ w, hd⟩
  have noA : ∀ b : Addr, b ∉ (lamCx X A outer s1 HZ E scope f c').ex := fun b m => absurd (show b ∈ ([] : List Addr) from m) (by simp)
  refine ⟨⟨z0.mod, L.kind, rfl, rfl, Nat.le_refl _, fun y m c e1 e2 => I.ok.inj y m c (cm e1) (cm e2), fun y hy => ?_, fun y c m _ => ?_, fun _ => z1, Around.frames_deeper z0.frames, .inr ⟨rfl, rfl⟩, fun b m => absurd m (noA b), z0.bs, z0.bsz, fun b _ _ => noA b,
      fun b m => absurd m (noA b), z0.funs, z0.frf⟩,
    rfl, z0.bare, Un.kept kp, ⟨_, ns, fun i y u e1 e2 e3 => ?_⟩, fun y c e => ?_, z0.hok.fresh (Nat.le_refl _), fun y c e => ?_, fun p hp => absurd (show p ∈ ([] : List (Addr × Obj)) ++ [] from hp) (by simp), z0.hok.kept kp, I.len⟩
  · have hy : scope.names.lookup y = some .cell ∨ scope.names.lookup y = some .free := hy
    exact hy.elim (fun m => absurd rfl (L.own _ (PySem.mem_of_lookup m)).2) look
  · cases (show false = true from m)
  · have e1' : X.N[i]? = some y := e1
    have e3 : Vis scope y := e3
    rcases e3 with m | m | m
    · have m' := (L.own _ (PySem.mem_of_lookup m)).1 rfl
      exact absurd (m' ▸ List.mem_of_getElem? e1') hx
    · exact absurd rfl (L.own _ (PySem.mem_of_lookup m)).2
    · obtain ⟨mm, hn, hl⟩ := I.loc
      have vis : Vis X.env.scope y := (L.free _ (PySem.mem_of_lookup m) rfl).elim (fun m => .inr (.inl m)) (fun m => .inr (.inr m))
      obtain ⟨u', r, w⟩ := hl i y u e1 e2 vis
      obtain ⟨c2, m2⟩ := look m
      refine ⟨u', r, .inr ⟨.inr m, c2, m2, ?_⟩⟩
      have c1 := cm m2
      rcases w with ⟨k', _⟩ | ⟨_, c3, e', w⟩
      · have k' : X.env.scope.names.lookup y = some .local := k'
        rcases L.free _ (PySem.mem_of_lookup m) rfl with k2 | k2 <;> rw [show X.env.scope.names.lookup y = _ from k2] at k' <;> cases k'
      · rw [c1] at e'
        cases e'
        exact cellK (I.freeC y _ c1) w
  · obtain ⟨u', w⟩ := I.cell y c (cm e)
    exact ⟨u', cellK (I.freeC y c (cm e)) w⟩
  · obtain ⟨u, o, ho, hd⟩ := I.cell y c (cm e)
    exact un.free c o ho (I.freeC y c (cm e)) (by simp)
/-- how the call without arguments binds -/
def BindsD (x : Str) (ps : Arguments) (bd : Expr) (sc : Scope) : Prop := ∀ (q : Str) (cl : List (Str × Addr)) (d : Addr) (v pm cv ct : Value), ∃ k, bindArgs (dfFd q ps bd sc cl (.ref d) pm cv ct) ⟨[], []⟩ = seqItems? (.ref d) >>= k ∧ k (some #[v]) = pure [(x, v)]
theorem pe_actD {CXg : CXT} {Eg : XK} {Ng : List Str} {qg : Str} {sg : Scope} {g f c' d : Addr} {cdg pm ct v : Value} {ps : Arguments} {bd : Expr} {scope : Scope} {k i : Nat} {a x : Str} {pn : List (Addr × Obj)} {xe : Value → Shared → Prop} {W : WX} {E : XK} {tb : TE} {p1 p2 : Pos}
    (I : Inv X pins σ H s) (L : LamSD X.env.scope scope x) (hx : x ∉ X.N) (hf : s.heap.get? f = some (dfObj (dfFd (X.env.qual ++ "<lambda>") ps bd scope (cloFrom X.env.cells scope.names []) (.ref d) pm (.ref c') ct))) (hdv : s.heap.get? d = some (dfTup v)) (nf : H f = none) (nd : H d = none) (ff : f ∉ frs X.stack) (fd : d ∉ frs X.stack)
    (hbind : BindsD x ps bd scope)
    (tk : Takes ((cxOf CXg X.prog X.w X.K X.mg X.base Ng qg sg g cdg X.A X.stack s H Eg).tr pn xe) W) (hW : ∀ cls d σ' H', E cls d H' → W cls d σ' H') (hr : Room (k + 1) (X.A.deeper (envOfC qg sg s.heap.objs.size g cdg)))
    (hbody : ∀ (A : Around) (outer : List Env) (s : Shared) (H : Hp), Room k (A.deeper (lamEnv X scope s.heap.objs.size f c')) → PE (lamCx X A outer s H E scope f c') bd tb)
    (hN : Ng[i]? = some a) (hv : Vis sg a) (hd : (a == ("__debug__" : Str)) = false := by decide) (hcd : (a == ("__classdict__" : Str)) = false := by decide) :
    PE ((cxOf CXg X.prog X.w X.K X.mg X.base Ng qg sg g cdg X.A X.stack s H Eg).tr pn xe) (.Call (.Name a p1) [] [] p2)
      (fun σZ HZ Q => σZ[i]? = some (some (.ref f)) ∧ HZ c' = some (CodeO c' (X.env.qual ++ "<lambda>")) ∧ tb σ HZ Q) := by
  refine ⟨fun pinsZ sZ σZ HZ Q IZ ⟨hs, hc, ht⟩ => ?_⟩
  refine wpAny_Call_Name_kw (thn ((pe_var (pos := p1) (i := i) hN hv hd hcd).run pinsZ sZ σZ HZ (fun u H1 => u = .ref f ∧ H1 = HZ) IZ ⟨.ref f, hs, rfl, rfl⟩) fun u s1 ⟨u', H1, I1, r1, w1⟩ => ?_)
  obtain ⟨w1, w2⟩ := w1
  subst w1
  rw [w2] at I1
  obtain rfl : u = Value.ref f := r1
  have noX : ∀ b : Addr, b ∉ ([] : List Addr) := fun b z => nomatch z
  have of1 : s1.heap.get? f = some (dfObj (dfFd (X.env.qual ++ "<lambda>") ps bd scope (cloFrom X.env.cells scope.names []) (.ref d) pm (.ref c') ct)) := I1.base.keep f _ hf nf ff (noX f)
  have od1 : s1.heap.get? d = some (dfTup v) := I1.base.keep d _ hdv nd fd (noX d)
  refine PySem.W.callWith_F0 ⟨_, _, _, _, of1⟩ ?_
  have un : Un (frs X.stack) [] H HZ s.heap s1.heap := I1.base
  obtain ⟨⟨oc, vs, t, o1, o2, o3⟩, _, _⟩ := I1.hok c' _ hc
  obtain ⟨kb, bk1, bk2⟩ := hbind (X.env.qual ++ "<lambda>") (cloFrom X.env.cells scope.names []) d v pm (.ref c') ct
  have rc : codeAny (model X.prog X.w) (X.A.deeper (envOfC qg sg s.heap.objs.size g cdg)) (.call (.ref f) ⟨[], []⟩) (CR (L2.CX X.prog X.w) (envOfC qg sg s.heap.objs.size g cdg :: X.stack) X.prog X.w HZ s1 Q E) s1 := by
    refine PySem.W.kla_callFunE hr.depth of1 rfl L.co L.gen rfl ⟨c', oc, vs, t, rfl, o1, o2, o3⟩ ?_
    rw [bk1]
    refine wpAny_bind (wpAny_seqItems od1 rfl ?_)
    rw [bk2]
    refine wpAny_pure (wpAny_newFunctionEnv (fun y hy => (L.own y hy).2) (fun y hy => by rw [List.mem_singleton.mp hy]; exact L.loc) (fun h₁ hns hsb => ⟨I1.nolimit.fresh _ hsb, ?_⟩) L.kind)
    show codeAny _ _ (.expr bd (lamEnv X scope s1.heap.objs.size f c')) _ _
    have kp : ∀ b o, s1.heap.get? b = some o → h₁.get? b = some o := fun b o z => hsb.extBut b o (Nat.ne_of_lt (Heap.lt_size z)) (Heap.get?_push_of_some _ z)
    have J : Inv (lamCx X (X.A.deeper (envOfC qg sg s.heap.objs.size g cdg)) (envOfC qg sg s.heap.objs.size g cdg :: X.stack) s1 HZ E scope f c') [] σ HZ { s1 with heap := h₁, toks := s1.toks + ([(x, v)] : List (Str × Value)).length } :=
      lam_startD I L hx I1.env0 hr.hd un hns kp
    refine PySem.W.kla_codeExpr (wpAny_mono ((hbody _ _ s1 HZ (hr.deeper _)).run [] _ _ HZ Q J ht) (fun u s' hq => ?_) fun z s' hq => hq)
    obtain ⟨w', H', J', rv, q⟩ := hq
    exact ⟨w', H', J'.os, J'.bare, J'.base, J'.hok, rv, q⟩
  have hxp : Passes (L2.CX X.prog X.w) ((cxOf CXg X.prog X.w X.K X.mg X.base Ng qg sg g cdg X.A X.stack s H Eg).tr pn xe) E := passes_call tk hW
  refine wpAny_call (codeAny_mono rc fun r s' hq => ?_)
  match r, hq with
  | .error z, hq => exact hxp pinsZ σZ HZ s1 z s' I1 hq
  | .ok (.ret u), hq => exact I1.after hq
  | .ok .next, hq => exact hq.elim
  | .ok .brk, hq => exact hq.elim
  | .ok .cont, hq => exact hq.elim
end
section
variable {X : Cx}
/-- g(lambda x=const: body) -/
theorem pe_lamcallD {T : List (Addr × Str)} {TT : (XK → Hp → VK → Prop) → Hp → VK → Prop} {gn a x : Str} {g c P : Addr} {k : Nat} {pg : Arguments} {bg : List Stmt} {sg : Scope} {dV kV doc pm cdv ct oc : Value} {an od : Option Addr} {osl : Array (Option Value)} {Ng : List Str}
    {ap : Pos} {e bd : Expr} {scope : Scope} {t : XK → TE} {p lpos pos : Pos} (hg : Gl X gn) (hm : X.mg gn = some (.ref g)) (hk : PySem.W.keepIn X.K (.ref g) = true)
    (lk : X.K.lookup g = some ⟨oc, od, .func (PySem.W.fnOf gn gn pg bg sg dV kV doc pm an cdv ct), osl⟩) (hcg : PySem.W.codeIn X.K cdv gn = true) (hb : L2.Binds X.K (PySem.W.fnOf gn gn pg bg sg dV kV doc pm an cdv ct) [a] []) (Sg : FnScope Ng [a] sg) (hNg : Ng[0]? = some a) (hva : Vis sg a)
    (hG : GivesTo X Ng gn sg g cdv bg a (X.env.qual ++ "<lambda>") TT)
    (TB : TabB X.base X.mg c P) (hcode : X.env.code = .ref c) (hmT : (P, X.env.qual ++ "<lambda>") ∈ T) (hu : ∀ p ∈ T, p.1 = P → p.2 = X.env.qual ++ "<lambda>") (hr : Room (k + 2) X.A) (L : LamSD X.env.scope scope x) (hx : x ∉ X.N) (he : e.isPlainConst = true)
    (hbind : BindsD x (dfArgs x ap e) bd scope)
    (hbody : ∀ (A : Around) (outer : List Env) (s : Shared) (H : Hp) (E : XK) (f c' : Addr), Room k (A.deeper (lamEnv X scope s.heap.objs.size f c')) → PE (lamCx X A outer s H E scope f c') bd (t E))
    (hdb : (gn == ("__debug__" : Str)) = false := by decide) (hd : (a == ("__debug__" : Str)) = false := by decide) (hcd : (a == ("__classdict__" : Str)) = false := by decide) :
    PE X (.Call (.Name gn p) [.Lambda (dfArgs x ap e) bd scope lpos] [] pos) (tLam T TT t) := by
  refine ⟨fun pins s σ H Q I ⟨hT, h⟩ => ?_⟩
  refine wpAny_Call_Name_kw (ld_glob I hg hm ?_ hdb)
  refine PySem.W.callWith_K (h₀ := X.base) I.ok.mod.kin hk ?_ (by rfl) (by rfl)
  show wpAny _ _ (spliced ((false, eval (.Lambda (dfArgs x ap e) bd scope lpos) X.env) :: backTo pos (starEach [] X.env))) _ _ s
  refine Calls.spliced_cons (lam_makeD I TB hcode he hmT hu hT (L.has I.ok) fun f c' d v pm' ctv H1 s' I1 eN T1 hf hdv nf nd ff fd hco => ?_)
  refine Calls.spliced_nil ⟨I1.kIn, ?_⟩
  have rc : codeAny (model X.prog X.w) X.A (.call (.ref g) ⟨[.ref f], []⟩) (CR C8.CX0 X.stack X.prog X.w H1 s' Q C8.E0) s' := by
    refine run_ofS (N := Ng) (ps := [a]) (us := [.ref f]) (vs := [.ref f]) lk hcg Sg hr I1.env0 (hb s' [.ref f] I1.kIn rfl) (.cons rfl .nil) rfl fun hr' => ?_
    obtain ⟨t', ht', hq'⟩ := hG f c' s' H1 Q (fun E H' Q' => t E σ H' Q') (fun W pn xe E p1 p2 tk hW => pe_actD (i := 0) I1 L hx hf hdv nf nd ff fd hbind tk hW hr' (fun A outer s H hr2 => hbody A outer s H E f c' hr2) hNg hva hd hcd) hco (h H1 eN T1)
    exact ⟨t', ht'.nox, hq'⟩
  refine wpAny_call (codeAny_mono rc fun r s2 hq => ?_)
  match r, hq with
  | .error z, hq => exact (show False from hq).elim
  | .ok (.ret u), hq => exact I1.after hq
  | .ok .next, hq => exact hq.elim
  | .ok .brk, hq => exact hq.elim
  | .ok .cont, hq => exact hq.elim
end
end LamX
end S_Wi
section S_Wk
namespace Hk
open PySem PySem.Spec PyProof.Rows L2 LamX Tl
/-- caught = None / try: ask() / except E as error: caught = error / rest -/
def THeardS (K : PySem.W.Frag) (CS : Addr) (tr : TS) : (XK → Hp → VK → Prop) → Hp → VK → Prop := fun tl H Q => ∀ f : Addr,
  tl (fun cls d H' => PySem.W.exmOne K cls (.ref CS) = some true ∧ ∀ a, H' a = none → ∀ σ' : L2.St, σ'.length = 3 → σ'[1]? = some (some (.ref a)) → tr { nx := fun _ G => Q .non G, rt := Q } σ' (upd H' a (ErrAt cls d a))) H
    fun _ H' => tr { nx := fun _ G => Q .non G, rt := Q } [some (.ref f), some .non, none] H'
theorem heard_givesS {X : Cx} {x e q : Str} {sg : Scope} {g CS : Addr} {cdg : Value} {j : Nat} {rest : List Stmt} {tr : TS} {p1 p2 p3 p4 p5 p6 p7 p8 p9 r1 r2 r3 : Pos} (Sg : FnScope nAsk ["ask"] sg) (k1 : sg.names.lookup ("caught" : Str) = some NameKind.local) (k2 : sg.names.lookup ("error" : Str) = some NameKind.local)
    (hge : sg.names.lookup e = some .globalImplicit) (hme : X.mg e = some (.ref CS)) (hde : (e == ("__debug__" : Str)) = false)
    (hrt : ∀ (A : Around) (s : Shared) (H : Hp), PSs (cxA X x sg g cdg A s H) rest tr) :
    GivesTo X nAsk x sg g cdg (.Assign [.Name "caught" p1] (.Constant .none j p2) p3 :: .Try [.Expr (.Call (.Name "ask" r1) [] [] r2) r3] [.ExceptHandler (some (.Name e p4)) (some "error") [.Assign [.Name "caught" p5] (.Name "error" p6) p7] p8] [] [] p9 :: rest) "ask" q (THeardS X.K CS tr) := by
  intro f c' s H Q tl act hc h
  have gE : Gl (cxA X x sg g cdg X.A s H) e := hge
  have l1 : ∀ {Y : Cx}, Y.env.scope = sg → (Y.fn "caught" = true ∨ Y.env.scope.names.lookup ("caught" : Str) = some NameKind.local) := fun z => .inr (by rw [z]; exact k1)
  refine ⟨_, pss_cons (ps_set (X := cxA X x sg g cdg X.A s H) (i := 1) Sg.nd rfl (Or.inl k1) pe_non rfl (l1 rfl)) (pss_cons (ps_keep (X := cxA X x sg g cdg X.A s H) (i := 2) (c := .ref CS) (ts := fun _ _ _ => tAsg (tVar 2) (gName 1))
      (tb := fun W D σ H => ∃ Ech : XK, (∀ cls d σ' H', Ech cls d H' → σ'.length = 3 → W cls d σ' H') ∧ σ[0]? = some (some (.ref f)) ∧ H c' = some (CodeO c' q) ∧ tl Ech H (fun _ H' => D.nx σ H'))
      rfl rfl rfl Sg.nd rfl k2 ⟨gE, hde, Or.inl hme⟩ (fun W pn xe tk _ => ?_) (fun a oe cls d pn _ _ => pss_one (ps_set (i := 1) Sg.nd rfl (Or.inl k1) (pe_var (i := 2) rfl (Or.inl k2)) rfl (l1 rfl)))) (hrt X.A s H)), ?_⟩
  · refine ⟨fun pins s' σ H' D I ⟨Ech, hW, h1, h2, h3⟩ => ?_⟩
    have hp := act (fun cls d σ H => σ.length = nAsk.length → W cls d σ H) pn xe Ech r1 r2 (takes_len tk) hW
    exact (pss_one (ps_expr (pos := r3) hp)).run pins s' σ H' D I ⟨h1, h2, h3⟩
  · have h' := h f
    refine ⟨fun cls d H' => PySem.W.exmOne X.K cls (.ref CS) = some true ∧ ∀ a, H' a = none → ∀ σ' : L2.St, σ'.length = 3 → σ'[1]? = some (some (.ref a)) → tr { nx := fun _ G => Q .non G, rt := Q } σ' (upd H' a (ErrAt cls d a)), ?_, rfl, hc, h'⟩
    rintro cls d σ' H' ⟨he, hk⟩ hl
    refine ⟨he, fun a na => ?_⟩
    exact ⟨.ref a, by rw [List.getElem?_set_self (by omega)] <;> rfl, fun na' => hk a na' _ (by simp [hl]) (by rw [List.getElem?_set_ne (by decide), List.getElem?_set_self (by simp [hl])] <;> rfl)⟩
/-! ### what stays while tables grow and the drawer draws -/
/-- H without its tables, and without what stands at t -/
def strip (t : Addr) (H : Hp) : Hp := fun a => if a = t then none else match H a with
  | some (.tbl _) => none
  | o => o
theorem strip_at {t a : Addr} {H : Hp} {o : HO} (h : H a = some o) (ht : a ≠ t) (hn : ∀ ps, o ≠ .tbl ps) : strip t H a = some o := by
  unfold strip
  rw [if_neg ht, h]
  split
  · rename_i ps e
    exact absurd (Option.some.inj e) (hn ps)
  · rfl
theorem strip_le {t a : Addr} {H : Hp} {o : HO} (h : strip t H a = some o) : a ≠ t ∧ H a = some o ∧ ∀ ps, o ≠ .tbl ps := by
  unfold strip at h
  by_cases z : a = t
  · rw [if_pos z] at h
    cases h
  · rw [if_neg z] at h
    refine ⟨z, ?_⟩
    split at h
    · cases h
    · rename_i hh
      refine ⟨h, fun ps e => ?_⟩
      rw [e] at h
      exact hh ps h
theorem strip_new {t a : Addr} {H : Hp} (h : H a = none) : strip t H a = none := by
  unfold strip
  split
  · rfl
  · rw [h]
theorem strip_ex {t : Addr} {H : Hp} : Evl.Ex (strip t H) H := fun a o h => (strip_le h).2.1
theorem strip_n {t : Addr} {H H' : Hp} (e : ExtN H H') : Evl.Ex (strip t H) H' := fun a o h => e a o (strip_le h).2.1 (strip_le h).2.2
theorem strip_nt {t : Addr} {H : Hp} : ∀ a ps, strip t H a ≠ some (.tbl ps) := fun a ps h => (strip_le h).2.2 ps rfl
/-- B, which holds no table, stands; so do the tables -/
structure Live (T : List (Addr × Str)) (B H : Hp) : Prop where
  ex : Evl.Ex B H
  nt : ∀ a ps, B a ≠ some (.tbl ps)
  tabs : Tabs T H
theorem Live.exN {T : List (Addr × Str)} {B H H' : Hp} (l : Live T B H) (e : ExtN H H') (t : Tabs T H') : Live T B H' := ⟨fun a o h => e a o (l.ex a o h) fun ps z => l.nt a ps (z ▸ h), l.nt, t⟩
theorem Live.go {T : List (Addr × Str)} {B H H' : Hp} (l : Live T B H) (e : Evl.Ex H H') : Live T B H' := ⟨l.ex.trans e, l.nt, l.tabs.ext e⟩
theorem Live.add {T : List (Addr × Str)} {B H : Hp} {p : Addr} {o : HO} (l : Live T B H) (h : H p = some o) (ho : ∀ ps, o ≠ .tbl ps) : Live T (upd B p o) H := ⟨fun a u e => by
  by_cases z : a = p
  · rw [z, upd_same] at e
    rw [z, h]
    exact e
  · rw [upd_ne z] at e
    exact l.ex a u e, fun a ps => by
  by_cases z : a = p
  · rw [z, upd_same]
    exact fun e => ho ps (Option.some.inj e)
  · rw [upd_ne z]
    exact l.nt a ps, l.tabs⟩
theorem Live.fresh {T : List (Addr × Str)} {B H : Hp} {p : Addr} (l : Live T B H) (h : H p = none) : B p = none := by
  cases e : B p with
  | none => rfl
  | some o =>
    have := l.ex p o e
    rw [h] at this
    cases this
section
variable {K : PySem.W.Frag} {σ : L2.St} {G : Hp}
theorem ev_isK {a D : Addr} {d : Option Addr} {fs : List (Str × V)} {c : Addr} {b : Bool} {i : Nat} (hσ : σ[i]? = some (some (.ref a))) (ha : G a = some (ErrAt (.ref D) d a)) (hd : DictAt G d fs) (E : ErrC K D) (hk : PySem.W.kitOne K (.ref D) (.ref c) = some b) :
    Evl.Ev (tCB (fun xs H Q => rIsi K xs H Q ∨ rIsK K xs H Q) (tCons (tVar i) (tCons (tC (.ref c)) tNil))) σ G (.bl b) := fun H1 e Q q =>
  ⟨.ref a, hσ, .inr ⟨a, D, d, fs, .ref c, .ref c, b, rfl, e _ _ ha, hd.imp fun x ⟨y, z⟩ => ⟨y, e _ _ z⟩, E, .own c, hk, q H1 (Evl.Ex.refl H1)⟩⟩
theorem ev_isNone {c : Addr} {b : Bool} {i : Nat} (hσ : σ[i]? = some (some .non)) (hk : PySem.W.kitOne K (.type "NoneType") (.ref c) = some b) :
    Evl.Ev (tCB (fun xs H Q => rIsi K xs H Q ∨ rIsK K xs H Q) (tCons (tVar i) (tCons (tC (.ref c)) tNil))) σ G (.bl b) := fun H1 e Q q =>
  ⟨.non, hσ, .inl ⟨.non, .ref c, .type "NoneType", .ref c, b, rfl, .own c, .base .non, hk, q H1 (Evl.Ex.refl H1)⟩⟩
theorem ev_keptF {a D : Addr} {d : Option Addr} {fs : List (Str × V)} {f : Str} {v : V} {i : Nat} (hσ : σ[i]? = some (some (.ref a))) (ha : G a = some (ErrAt (.ref D) d a)) (hd : DictAt G d fs) (E : ErrC K D) (hn : PySem.W.findIn K (.ref D) f = some none) (hl : fs.lookup f = some v) :
    Evl.Ev (tKeptF K f (tVar i)) σ G v := fun H1 e Q q => ⟨.ref a, hσ, a, D, d, fs, v, rfl, e _ _ ha, hd.imp fun x ⟨y, z⟩ => ⟨y, e _ _ z⟩, E, hn, hl, q H1 (Evl.Ex.refl H1)⟩
/-- a lambda heard that raises an error of the class D: a new tuple -/
theorem lam_raise {T : List (Addr × Str)} {CS D : Addr} {tr : TS} {t : XK → TE} {B H : Hp} {Q : VK} {fs : List (Str × V)} {vs : List V} (l : Live T B H) (hx : PySem.W.exmOne K (.ref D) (.ref CS) = some true)
    (ht : ∀ H1 E Q', Evl.Ex B H1 → (∀ H2 d, Evl.Ex H1 H2 → H2 d = none → E (.ref D) (some d) (upd H2 d (.xd fs))) → t E σ H1 Q')
    (hr : ∀ (G : Hp) (a d : Addr) (σ' : L2.St) (D' : Ends), G a = some (ErrAt (.ref D) (some d) a) → DictAt G (some d) fs → σ'.length = 3 → σ'[1]? = some (some (.ref a)) → (∀ p G', G p = none → Evl.Ex G G' → G' p = some (.tup vs) → D'.rt (.ref p) G') → tr D' σ' G)
    (k : ∀ p H3, Live T (upd B p (.tup vs)) H3 → H3 p = some (.tup vs) → B p = none → Q (.ref p) H3) : tLam T (THeardS K CS tr) t σ H Q := by
  refine ⟨l.tabs, fun H1 eN T1 f => ht H1 _ _ (l.exN eN T1).ex fun H2 d e2 hd => ⟨hx, fun a na σ' hl hσ => ?_⟩⟩
  have ad : d ≠ a := fun z => by rw [← z, upd_same] at na; cases na
  have eG : Evl.Ex H1 (upd (upd H2 d (.xd fs)) a (ErrAt (.ref D) (some d) a)) := (e2.trans (Evl.Ex.new hd)).trans (Evl.Ex.new na)
  refine hr _ a d σ' _ upd_same ⟨d, rfl, by rw [upd_ne ad, upd_same]⟩ hl hσ fun p G' hp e hG' => ?_
  have L := ((l.exN eN T1).go eG).go e
  refine k p G' (L.add hG' fun ps z => nomatch z) hG' ?_
  exact ((l.exN eN T1).go eG).fresh hp
/-- a lambda heard that raises nothing -/
theorem lam_calm {T : List (Addr × Str)} {CS : Addr} {tr : TS} {t : XK → TE} {B H : Hp} {Q : VK} (l : Live T B H)
    (ht : ∀ H1 E Q', Evl.Ex B H1 → (∀ v H2, Evl.Ex H1 H2 → Q' v H2) → t E σ H1 Q')
    (hr : ∀ (G : Hp) (f : Addr) (D' : Ends), (∀ G', Evl.Ex G G' → D'.rt .non G') → tr D' [some (.ref f), some .non, none] G)
    (k : ∀ H3, Live T B H3 → Q .non H3) : tLam T (THeardS K CS tr) t σ H Q :=
  ⟨l.tabs, fun H1 eN T1 f => ht H1 _ _ (l.exN eN T1).ex fun v H2 e2 => hr H2 f _ fun G' e => k G' (((l.exN eN T1).go e2).go e)⟩
end
end Hk
end S_Wk
section S_Ws
namespace Hk
open PySem PySem.Spec PyProof.Rows L2 LamX Tl
/-- isinstance(e, (c1, c2, ..)) of a kept error -/
def rIsKT (K : PySem.W.Frag) : List V → Hp → VK → Prop := fun xs H Q => ∃ (a D tp : Addr) (d : Option Addr) (fs : List (Str × V)) (cs : List V) (us : List Value) (b : Bool), xs = [.ref a, .ref tp] ∧ H a = some (ErrAt (.ref D) d a) ∧ DictAt H d fs ∧ ErrC K D ∧ H tp = some (.tup cs) ∧ Paired ClsV cs us ∧ PySem.W.kitAny K (.ref D) us = some b ∧ Q (.bl b) H
theorem call_isKeptT {X : Cx} : CallR X (.builtin "isinstance") (rIsKT X.K) := by
  intro pins s σ H xs us Q I r h
  obtain ⟨a, D, tp, d, fs, cs, ws, b, rfl, ha, hd, C, hT, k, e, q⟩ := h
  obtain ⟨u1, u2, rfl, r1, r2⟩ := vals2 r
  cases (show u2 = Value.ref tp from r2)
  cases (show u1 = Value.ref a from r1)
  obtain ⟨oe, od, mA, J, _, _⟩ := at_inst I ha hd
  obtain ⟨_, its, rv, o, h1, h2, n, h3⟩ := (show ObjOk X.prog X.w H s.heap tp (.tup cs) from I.hok tp _ hT)
  have e3 := ClsV.all k rv
  subst e3
  obtain ⟨oc, od', dt, sl⟩ := o
  simp only at h2 h3
  subst h2 h3
  exact PySem.W.kia_tup (PySem.W.kitx_exc C.ci C.ga C.gg C.ex C.ha C.hn C.ht C.hm) I.kIn J h1 e (fun z => nomatch z) fun tk => ⟨.bl b, H, I.kept (t' := tk) fun _ _ z => z, rfl, q⟩
theorem call_isAnyT {X : Cx} : CallR X (.builtin "isinstance") (fun xs H Q => rIsiT X.K xs H Q ∨ rIsKT X.K xs H Q) := by
  intro pins s σ H xs us Q I r h
  rcases h with h | h
  · exact call_isiT _ _ _ _ _ _ _ I r h
  · exact call_isKeptT _ _ _ _ _ _ _ I r h
section
variable {K : PySem.W.Frag} {σ : L2.St} {G : Hp}
theorem ev_isKT2 {a D : Addr} {d : Option Addr} {fs : List (Str × V)} {c1 c2 : Addr} {b : Bool} {i : Nat} (hσ : σ[i]? = some (some (.ref a))) (ha : G a = some (ErrAt (.ref D) d a)) (hd : DictAt G d fs) (E : ErrC K D) (hk : PySem.W.kitAny K (.ref D) [.ref c1, .ref c2] = some b) :
    Evl.Ev (tCB (fun xs H Q => rIsiT K xs H Q ∨ rIsKT K xs H Q) (tCons (tVar i) (tCons (tTup (tCons (tC (.ref c1)) (tCons (tC (.ref c2)) tNil))) tNil))) σ G (.bl b) := fun H1 e Q q =>
  ⟨.ref a, hσ, by show 2 ≤ sizeLine; decide, fun tp htp => .inr ⟨a, D, tp, d, fs, [.ref c1, .ref c2], [.ref c1, .ref c2], b, rfl, (e.trans (Evl.Ex.new htp)) _ _ ha, hd.imp fun x ⟨y, z⟩ => ⟨y, (e.trans (Evl.Ex.new htp)) _ _ z⟩, E, upd_same, .cons (.own c1) (.cons (.own c2) .nil), hk, q _ (Evl.Ex.new htp)⟩⟩
end
end Hk
end S_Ws
section S_Wu
namespace Hk
open PySem PySem.Spec PyProof.Rows L2 LamX Tl
/-- a text backward -/
def revS (z : Str) : Str := ⟨((Builtin.Str.strSliceIndices none none (-1) z.length).filterMap (z.cps[·]?)).toArray⟩
def tRevS (te : TE) : TE := fun σ H Q => te σ H fun x H1 => ∃ z, x = .str z ∧ (revS z).length ≤ sizeLine ∧ Q (.str (revS z)) H1
theorem pe_revS {X : Cx} {e : Expr} {te : TE} {k : Nat} {p1 p2 p3 pos : Pos} (he : PE X e te) : PE X (.Subscript e (.Slice none none (some (.UnaryOp .USub (.Constant (.int 1) k p1) p2)) p3) pos) (tRevS te) := by
  refine ⟨fun pins s σ H Q I h => ?_⟩
  refine Subscript_ (thn (he.run pins s σ H _ I h) fun v s1 ⟨x, H1, I1, r1, q1⟩ => ?_)
  obtain ⟨z, ex, hz, q⟩ := q1
  subst ex
  obtain ⟨t, rfl⟩ := r1
  have hst : PO X (some (.UnaryOp .USub (.Constant (.int 1) k p1) p2)) (tPart (tUn (rU fun i => .int (-i)) (tC (.int 1)))) := po_some (pe_un un_neg pe_int)
  refine wpAny_Slice (thn (po_none.run pins s1 σ H1 (fun o H2 => o = none ∧ H2 = H1) I1 ⟨rfl, rfl⟩) fun vl s2 ⟨l, H2, I2, pl, el, e2⟩ => ?_)
  subst el e2
  refine thn (po_none.run pins s2 σ H2 (fun o H3 => o = none ∧ H3 = H2) I2 ⟨rfl, rfl⟩) fun vu s3 ⟨u, H3, I3, pu, eu, e3⟩ => ?_
  subst eu e3
  refine thn (hst.run pins s3 σ H3 (fun o H4 => o = some (-1) ∧ H4 = H3) I3 ⟨1, rfl, -1, rfl, rfl, rfl⟩) fun vs s4 ⟨o, H4, I4, ps, eo, e4⟩ => ?_
  subst eo e4
  have I5 : Inv X pins σ H4 { s4 with heap := s4.heap.push { cls := .type "slice", data := .fields #[vl, vu, vs] } } := I4.kept (t' := s4.toks) fun b ob q => Heap.get?_push_of_some _ q
  obtain ⟨l', rfl, el⟩ := IsPart.raw pl
  obtain ⟨u', rfl, eu⟩ := IsPart.raw pu
  obtain ⟨st', rfl, es⟩ := IsPart.raw ps
  show wpAny (model X.prog X.w) X.A (subscriptTail e (.Slice none none (some (.UnaryOp .USub (.Constant (.int 1) k p1) p2)) p3) (.str z t) (.ref s4.heap.objs.size)) (EP X pins σ Q) X.xe { s4 with heap := s4.heap.push { cls := .type "slice", data := .fields #[partValue l', partValue u', partValue st'] } }
  refine tail_any (ops := [.str z t, .ref s4.heap.objs.size]) (typeIs_str _ _ _) (F.slot_str_getitem.lookup) ?_ (by with_unfolding_all rfl)
  refine wpAny_getItem_str_slice (l := l') (u := u') (st := st') ⟨_, Heap.get?_push_size _ rfl, rfl, rfl⟩ (by rw [es]; rfl) ?_
  unfold sliceMade slicePicked
  rw [el, eu, es]
  have hne : ¬((((some (-1) : Option Int).getD 1 == 1) && (Builtin.Str.strSliceIndices none none ((some (-1) : Option Int).getD 1) z.length).length == z.length) = true) := by
    show ¬((false && _) = true)
    rw [Bool.false_and]
    exact Bool.false_ne_true
  rw [if_neg hne]
  exact ⟨hz, .str (revS z), H4, I5.tok _, ⟨_, rfl⟩, q⟩
/-- a text, some times -/
def mulS (a : Str) (n : Nat) : Str := ⟨(List.replicate n a.cps).foldl (· ++ ·) #[]⟩
def rMulS : R2 := fun x y H Q => ∃ (a : Str) (n : Nat), x = .str a ∧ y = .int (n : Int) ∧ 2 ≤ n ∧ 1 ≤ a.length ∧ a.length * n ≤ 1000 ∧ Q (.str (mulS a n)) H
theorem op_mulS {X : Cx} : OpR X (binaryOp .Mult) rMulS := by
  intro pins s σ H x y v u Q I rx ry h
  obtain ⟨a, n, rfl, rfl, h2, h1, hz, q⟩ := h
  obtain ⟨t, rfl⟩ := rx
  obtain ⟨t2, rfl⟩ := ry
  have hn : n ≤ 1000 := Nat.le_trans (Nat.le_mul_of_pos_left n h1) hz
  have hlong : Builtin.Str.tooLong (a.length * ((n : Int)).toNat) = false := by
    rw [Int.toNat_natCast]
    refine decide_eq_false fun z => ?_
    rw [sizeLine_eq] at z
    exact absurd (Nat.lt_of_lt_of_le z hz) (by decide)
  refine PySem.P.mul_str ?_ (fun _ _ => ?_) (fun _ _ => hlong) ?_
  · rw [decide_eq_false (by omega), decide_eq_false (by omega)]
    rfl
  · have : ((a.length : Nat) : Int) ≤ (2 ^ 63 - 1) / (n : Int) := by
      refine (Int.le_ediv_iff_mul_le (by omega)).mpr ?_
      have : ((a.length : Nat) : Int) * (n : Int) = ((a.length * n : Nat) : Int) := by rw [Int.natCast_mul]
      rw [this]
      have h3 : ((a.length * n : Nat) : Int) ≤ 1000 := by exact_mod_cast hz
      exact Int.le_trans h3 (by decide)
    omega
  · rw [if_neg (by omega), if_neg (by
      rw [Bool.or_eq_true_iff, beq_iff_eq, beq_iff_eq]
      omega), Int.toNat_natCast]
    exact ⟨PySem.fits_reps (by rw [← hlong, Int.toNat_natCast]), .str (mulS a n), H, I.tok _, ⟨_, rfl⟩, q⟩
end Hk
end S_Wu
section S_Wt
namespace Hk
open PySem PySem.Spec PyProof.Rows L2 LamX Tl
/-- the law's own call where no repr is under way, its code object's table tracked -/
theorem law_gTs {P : Program} {w : World} {K : PySem.W.Frag} {mg mb : Str → Option Value} {k : Nat} {fa a : Addr} {Ts : List (Addr × Addr)} {fd : FuncData} {x : Str} {sp : Sp} {s₁ : Shared} {vs : List Value} {ns : List Int}
    (kin : K.In s₁.heap) (hns : s₁.heap.Ns mainGlobals mg) (hb : s₁.heap.Ns builtinsNs mb) (hbb : ∀ x : Str, x ≠ "__name__" → mb x = bootBuiltins x) (hlim : s₁.heap.NoLimit) (hg : s₁.gens = #[])
    (hTs : ∀ p ∈ Ts, s₁.heap.get? p.2 = some { cls := .none, data := .fields #[] } ∧ K.lookup p.2 = none ∧ PySem.W.CodeHd s₁.heap p.1 p.2)
    (hbm : ∃ (bm : Addr) (ob : Obj), mg "__builtins__" = some (.ref bm) ∧ bm ≠ builtinsNs ∧ s₁.heap.get? bm = some ob ∧ ob.cls = .type "module" ∧ ob.dict = some builtinsNs ∧ ob.data = .plain)
    (ha : s₁.heap.get? a = some { cls := .type "list", data := .seq vs.toArray }) (hi : IntsAre vs ns) (hl : ns.length ≤ sizeLine) (hr : Room k callerA)
    (F : ∀ base : Heap, K.In base → base.Ns mainGlobals mg → (∀ p ∈ Ts, TabB base mg p.1 p.2) → FnG P w K mg base k fa fd [x] sp) (hbind : ∀ (s : Shared) (u : Value), BindsTo s fd ⟨[u], []⟩ [(x, u)])
    (hsp : ∀ H : Hp, (∀ p ∈ Ts, H p.2 = some (.tbl #[])) → SqL K H a (ns.map V.int) → sp [.ref a] H (fun v _ => v = .bl true) fun _ _ _ => False) :
    codeAny (model P w) callerA (.call (.ref fa) ⟨[.ref a], []⟩) (fun r s' => r = .ok (.ret (.bool true)) ∧ OldK s₁.heap s'.heap ∧ s'.os = s₁.os ∧ AllBare s'.gens) s₁ := by
  have rv := vals_ints hi
  have tbl : ∀ {b : Addr}, b ∈ Ts.map (·.2) → s₁.heap.get? b = some { cls := .none, data := .fields #[] } ∧ K.lookup b = none := fun {b} hb => by
    obtain ⟨p, hp, rfl⟩ := List.mem_map.mp hb
    exact ⟨(hTs p hp).1, (hTs p hp).2.1⟩
  have aT : a ∉ Ts.map (·.2) := fun z => by
    rw [(tbl z).1] at ha
    have z' : Data.fields #[] = Data.seq vs.toArray _ := congrArg Obj.data (Option.some.inj ha)
    cases z'
  have run : ∀ H : Hp, (∀ p ∈ Ts, H p.2 = some (.tbl #[])) → SqL K H a (ns.map V.int) → HOk P w H s₁.heap → (∀ b u, H b = some u → b ∈ Ts.map (·.2) ∨ (b = a ∧ K.lookup a = none ∧ ∃ o xs, u = .frz o (.lst xs))) →
      codeAny (model P w) callerA (.call (.ref fa) ⟨[.ref a], []⟩) (fun r s' => r = .ok (.ret (.bool true)) ∧ OldK s₁.heap s'.heap ∧ s'.os = s₁.os ∧ AllBare s'.gens) s₁ := by
    intro H hHT hS hok hA
    have keepB : ∀ {b : Addr} {o : Obj}, s₁.heap.get? b = some o → (∀ vs n, o.data ≠ .seq vs n) → o.data ≠ .fields #[] → (hidT s₁.heap H).get? b = some o := fun {b o} e h1 h2 => by
      refine hidT_get e ?_
      cases q : H b with
      | none => rfl
      | some u =>
        rcases hA b u q with e1 | ⟨e1, _⟩
        · rw [(tbl e1).1] at e
          cases e
          exact absurd rfl h2
        · rw [e1, ha] at e
          cases e
          exact absurd rfl (h1 _ _)
    have ns_of : ∀ {b : Addr} {m : Str → Option Value}, s₁.heap.Ns b m → (hidT s₁.heap H).Ns b m := fun {b m} hm => by
      obtain ⟨o, es, ep, e, d, r⟩ := hm
      exact ⟨o, es, ep, keepB e (fun vs n z => by rw [d] at z; cases z) (fun z => by rw [d] at z; cases z), d, r⟩
    have kb : K.In (hidT s₁.heap H) := fun b o e => hidT_get (kin b o e) (by
      cases q : H b with
      | none => rfl
      | some u =>
        rcases hA b u q with e1 | ⟨e1, e2, _⟩
        · rw [(tbl e1).2] at e
          cases e
        · rw [e1, e2] at e
          cases e)
    have hM : Mod K mg (hidT s₁.heap H) := ⟨kb, ns_of hns, ⟨mb, ns_of hb, hbb⟩, hlim.elim fun mc h => ⟨mc, ns_of h.1, h.2⟩⟩
    have e0 : Env0 P w K mg (hidT s₁.heap H) callerA [] s₁ H := ⟨rfl, hM, fun _ _ e => of_hidT e, by rw [hidT_size] <;> exact Nat.le_refl _, trivial, fun _ hb => (nomatch hb), hok, .of_eq hg⟩
    have TB : ∀ p ∈ Ts, TabB (hidT s₁.heap H) mg p.1 p.2 := fun p hp => by
      obtain ⟨hT, nT, hC⟩ := hTs p hp
      refine ⟨?_, ?_, fun z => ?_⟩
      · obtain ⟨o, us, file, tf, flags, tg, inF, text, tt, e1, r1, r2, r3, r4⟩ := hC
        exact ⟨o, us, file, tf, flags, tg, inF, text, tt, keepB e1 (fun vs n z => by rw [r2] at z; cases z) (fun z => by rw [r2] at z; cases z; simp at r3), r1, r2, r3, r4⟩
      · obtain ⟨bm, ob, b1, b2, b3, b4, b5, b6⟩ := hbm
        refine ⟨bm, ob, b1, b2, fun q => ?_, fun q => ?_, keepB b3 (fun vs n z => by rw [b6] at z; cases z) (fun z => by rw [b6] at z; cases z), b4, b5, b6⟩
        · obtain ⟨o, es, ep, e, hd, _⟩ := hns
          rw [q, e] at b3
          cases b3
          rw [hd] at b6
          cases b6
        · rw [q, hT] at b3
          cases b3
          cases b6
      · obtain ⟨o, es, ep, e, hd, _⟩ := hns
        rw [z, hT] at e
        cases e
        cases hd
    refine codeAny_mono ((F _ kb (ns_of hns) TB).go rfl hr e0 (us := [.ref a]) (hbind s₁ (.ref a)) (vs := [.ref a]) (.cons rfl .nil) (hsp H hHT hS)) fun r s' h => ?_
    match r, h with
    | .ok (.ret u), h =>
      obtain ⟨v, H', os, bare, un, hok', r', q⟩ := h
      cases (show v = .bl true from q)
      cases (show u = Value.bool true from r')
      have grown : ∀ p ∈ Ts, ∃ more, s'.heap.get? p.2 = some { cls := .none, data := .fields more } := fun p hp => by
        obtain ⟨more, zT⟩ := un.tbls p.2 #[] (hHT p hp)
        have q := hok' p.2 _ zT
        rw [Array.empty_append] at q
        exact ⟨more, q⟩
      have others : ∀ b o, b ∉ Ts.map (·.2) → s₁.heap.get? b = some o → s'.heap.get? b = some o := fun b o nb e => by
        cases q : H b with
        | none => exact un.keep b o e q (fun y => (nomatch y)) (fun y => (nomatch y))
        | some u =>
          rcases hA b u q with z | ⟨_, _, ob, xs, rfl⟩
          · exact absurd z nb
          · obtain ⟨e1, _⟩ := hok b _ q
            obtain ⟨e2, _⟩ := hok' b _ (un.frzs b ob _ q)
            rw [e] at e1
            cases e1
            exact e2
      refine ⟨rfl, ⟨fun b o e => ?_, fun b o e => ?_⟩, os, bare⟩
      · by_cases hb : b ∈ Ts.map (·.2)
        · obtain ⟨p, hp, rfl⟩ := List.mem_map.mp hb
          obtain ⟨hT, _, hC⟩ := hTs p hp
          obtain ⟨more, hm⟩ := grown p hp
          rw [hT] at e
          cases e
          exact .inr (.inl ⟨(hC.tab hT).isCodeTable, rfl, #[], more, rfl, by rw [Array.empty_append]; exact hm⟩)
        · exact .inl (others b o hb e)
      · by_cases hb : b ∈ Ts.map (·.2)
        · obtain ⟨p, hp, rfl⟩ := List.mem_map.mp hb
          obtain ⟨more, hm⟩ := grown p hp
          exact ⟨_, hm⟩
        · exact ⟨o, others b o hb e⟩
    | .error e, h => exact False.elim h
    | .ok .next, h => exact False.elim h
    | .ok .brk, h => exact False.elim h
    | .ok .cont, h => exact False.elim h
  have mem : ∀ p ∈ Ts, p.2 ∈ Ts.map (·.2) := fun p hp => List.mem_map.mpr ⟨p, hp, rfl⟩
  cases hk : K.lookup a with
  | some o =>
    have e := kin a o hk
    rw [ha] at e
    cases e
    refine run (fun b => if b ∈ Ts.map (·.2) then some (.tbl #[]) else none) (fun p hp => if_pos (mem p hp)) (.inr ⟨_, vs.toArray, _, hk, rfl, rfl, rfl, ?_, by simpa using rv⟩) (fun b u z => ?_) (fun b u z => ?_)
    · rw [List.size_toArray, hi.length]
      exact hl
    · dsimp only at z
      by_cases hb : b ∈ Ts.map (·.2)
      · rw [if_pos hb] at z
        cases z
        exact (tbl hb).1
      · rw [if_neg hb] at z
        cases z
    · by_cases hb : b ∈ Ts.map (·.2)
      · exact .inl hb
      · rw [if_neg hb] at z
        cases z
  | none =>
    refine run (fun b => if b ∈ Ts.map (·.2) then some (.tbl #[]) else if b = a then some (.frz { cls := .type "list", data := .seq vs.toArray } (.lst (ns.map V.int))) else none) (fun p hp => if_pos (mem p hp)) (.inl (.inr ⟨_, by dsimp only; rw [if_neg aT, if_pos rfl]⟩)) (fun b u z => ?_) fun b u z => ?_
    · dsimp only at z
      by_cases hb : b ∈ Ts.map (·.2)
      · rw [if_pos hb] at z
        cases z
        exact (tbl hb).1
      · rw [if_neg hb] at z
        by_cases hb2 : b = a
        · rw [if_pos hb2] at z
          cases z
          subst hb2
          exact ⟨ha, by rw [List.length_map]; exact hl, vs, _, rv, ha⟩
        · rw [if_neg hb2] at z
          cases z
    · by_cases hb : b ∈ Ts.map (·.2)
      · exact .inl hb
      · rw [if_neg hb] at z
        by_cases hb2 : b = a
        · rw [if_pos hb2] at z
          cases z
          exact .inr ⟨hb2, hk, _, _, rfl⟩
        · rw [if_neg hb2] at z
          cases z
/-- what is known of a def whose lambdas' table is tracked -/
def TabOf (K : PySem.W.Frag) (mg : Str → Option Value) (q : Program) (p : Addr × Addr) : Prop := ∃ (name : Str) (f : Addr) (fd : FuncData) (o : Obj) (e : Value) (dd : Option Addr) (vs : Array Value) (sl : Array (Option Value)),
  ((recsOf q).any fun e => e.name == name) = true ∧ mg name = some (.ref f) ∧ K.lookup f = some o ∧ o.data = .func fd ∧ fd.code = .ref p.1 ∧ K.lookup p.1 = some ⟨e, dd, .fields vs, sl⟩ ∧ vs[11]? = some (.ref p.2) ∧ K.lookup p.2 = none
theorem walk_gTs {l : PySem.W.OpenLaw} {n k : Nat} {q : Program} {loose : List Str} {XP : (Str → Option Value) → Heap → Prop} {YP : World → Heap → Prop} {d : DefRec} {K : Params → PySem.W.Frag} {x : Str}
    (hn : l.most = some n) (hn2 : n ≤ sizeLine) (hdf : d.params.defaults = []) (hr : Room k callerA) (hY : ∀ (w : World) (h : Heap), YP w h → (K w.params).In h)
    (F : ∀ (w : World) (mg : Str → Option Value) (fa : Addr) (h : Heap), (K w.params).In h → h.Ns mainGlobals mg → mg d.name = some (.ref fa) →
      ∃ (fd : FuncData) (Ts : List (Addr × Addr)) (sp : Sp), (∀ p ∈ Ts, TabOf (K w.params) mg q p) ∧ (∀ (s : Shared) (u : Value), BindsTo s fd ⟨[u], []⟩ [(x, u)]) ∧
        (∀ (H : Hp) (a : Addr) (ns : List Int), ns.length ≤ n → (∀ p ∈ Ts, H p.2 = some (.tbl #[])) → SqL (K w.params) H a (ns.map V.int) → sp [.ref a] H (fun v _ => v = .bl true) fun _ _ _ => False) ∧
        ∀ base : Heap, (K w.params).In base → base.Ns mainGlobals mg → (∀ p ∈ Ts, TabB base mg p.1 p.2) → FnG l.prog w (K w.params) mg base k fa fd [x] sp) :
    PySem.W.WalkO q loose XP YP l.row.toRowW d [] (fun f vs => PySem.call f vs) := by
  refine Att.attach_call hn hdf fun w s₀ s₁ mg mb fa o pm cd doc a vs ns G Y ho hd hcd hmg hobj hints hlen hg => ?_
  have kin := hY w _ Y
  obtain ⟨fd, Ts, sp, hTs, h1, hs, h2⟩ := F w mg fa _ kin G.T.g hmg
  have ts : ∀ p ∈ Ts, s₁.heap.get? p.2 = some { cls := .none, data := .fields #[] } ∧ (K w.params).lookup p.2 = none ∧ PySem.W.CodeHd s₁.heap p.1 p.2 := fun p hp => by
    obtain ⟨name, f, fd', o1, e, dd, us, sl, hrec, hmf, k1, k2, k3, k4, k5, nT⟩ := hTs p hp
    obtain ⟨dL, hm, hn1⟩ := List.any_eq_true.mp hrec
    have hn2' : dL.name = name := beq_iff_eq.mp hn1
    obtain ⟨a', o', fd2, c', P', g1, g2, g3, g4, g5, g6⟩ := G.T.tab dL hm
    rw [hn2', hmf] at g1
    cases g1
    have q1 := kin _ _ k1
    rw [q1] at g2
    cases g2
    rw [k2] at g3
    cases g3
    rw [k3] at g4
    cases g4
    have hC := PySem.W.CodeHd.of g5 g6
    obtain ⟨⟨oc, vc, e1, _, e3, e4⟩, hP⟩ := g6
    have q2 := kin _ _ k4
    rw [q2] at e1
    cases e1
    cases e3
    rw [k5] at e4
    cases e4
    exact ⟨hP, nT, hC⟩
  exact law_gTs kin G.T.g G.T.b G.T.builtins G.T.nolimit hg ts G.T.bmain hobj hints (Nat.le_trans hlen hn2) hr h2 h1 fun H hHT hS => hs H a ns hlen hHT hS
end Hk
end S_Wt
section S_Wv
namespace Hk
open PySem PySem.Spec PyProof.Rows L2 LamX Tl
/-- repr of data at an address, of None or of a truth -/
def rReprX (K : PySem.W.Frag) : List V → Hp → VK → Prop := fun xs H Q => rReprB K xs H Q ∨ ∃ b : Bool, xs = [.bl b] ∧ Q (.str (if b then "True" else "False")) H
theorem call_reprX {X : Cx} (hg : X.A.guards = some []) (hu : X.A.units + 64 < cLine) : CallR X (.builtin "repr") (rReprX X.K) := by
  intro pins s σ H xs us Q I r h
  rcases h with h | ⟨b, rfl, q⟩
  · exact call_reprB hg hu _ _ _ _ _ _ _ I r h
  · obtain ⟨u, rfl, ru⟩ := vals1 r
    cases ru
    exact PySem.P.repr_of_bool ⟨.str (if b then "True" else "False"), H, I.tok _, ⟨_, rfl⟩, q⟩
theorem ev_reprT {K : PySem.W.Frag} {te : TE} {σ : L2.St} {H : Hp} {b : Bool} (h : Evl.Ev te σ H (.bl b)) : Evl.Ev (tCB (rReprX K) (tCons te tNil)) σ H (.str (if b then "True" else "False")) := fun H1 e Q q =>
  h H1 e _ fun H2 e2 => .inr ⟨b, rfl, q H2 e2⟩
theorem strip_tb {T t : Addr} {H : Hp} {ps : Array Value} (hT : H T = some (.tbl ps)) {a : Addr} {o : HO} (h : H a = some o) (hn : ∀ ps, o ≠ .tbl ps) : strip T H a = some o := strip_at h (fun z => by
  rw [z, hT] at h
  exact hn ps (Option.some.inj h).symm) hn
theorem strip_extN {T : Addr} {H H' : Hp} {ps : Array Value} (hT : H T = some (.tbl ps)) (e : Evl.Ex (strip T H) H') : ExtN H H' := fun a o h hn => e a o (strip_tb (t := T) hT h hn)
end Hk
end S_Wv
section S_Wx
namespace Hk
open PySem PySem.Spec PyProof.Rows L2 LamX Tl
section
variable {prog : Program} {w : World} {A : Around} {E : Value → Shared → Prop} {s : Shared}
theorem applied_rev {sl : Addr} {vs : Value} {n : Nat} {Q : Int × Int × Nat → Shared → Prop} (hs : s.heap.IsSliceOf sl .none .none vs) (ps : IsPart vs (some (-1)))
    (h : Q ((n : Int) - 1, -1, n) s) : wpAny (model prog w) A (Builtin.Slice.sliceApplied (.ref sl) (pure (n : Int))) Q E s := by
  obtain ⟨os, hos, hcs, hds⟩ := id hs
  unfold Builtin.Slice.sliceApplied Builtin.Slice.sliceFields
  refine wpAny_bind (wpAny_bind (wpAny_field hos hds (x := .none) rfl (wpAny_bind (wpAny_field hos hds (x := .none) rfl (wpAny_bind (wpAny_field hos hds (x := vs) rfl (wpAny_pure ?_)))))))
  refine wpAny_bind (HT.slicePart_ ps ?_)
  show wpAny _ _ (if ((-1 : Int) == 0) = true then _ else _) _ _ s
  rw [if_neg (by decide)]
  refine wpAny_bind (HT.slicePart_ .none (wpAny_bind (HT.slicePart_ .none (wpAny_bind (wpAny_pure ?_)))))
  show wpAny _ _ (pure ((n : Int) - 1, (-1 : Int), Builtin.Slice.slicePlaces ((n : Int) - 1) (-1) (-1))) _ _ s
  have e : Builtin.Slice.slicePlaces ((n : Int) - 1) (-1) (-1) = n := by
    unfold Builtin.Slice.slicePlaces
    rw [if_neg (by decide)]
    by_cases z : n = 0
    · subst z; decide
    · rw [if_pos (by omega)]
      have : ((n : Int) - 1 - -1 - 1) / (- -1) = (n : Int) - 1 := by
        rw [Int.neg_neg, Int.ediv_one]
        omega
      rw [this]
      omega
  rw [e]
  exact wpAny_pure h
theorem fm_congr {α β : Type} {f g : α → Option β} : ∀ {l : List α}, (∀ x ∈ l, f x = g x) → l.filterMap f = l.filterMap g
  | [], _ => rfl
  | a :: r, h => by rw [List.filterMap_cons, List.filterMap_cons, h a List.mem_cons_self, fm_congr fun x hx => h x (List.mem_cons_of_mem _ hx)]
theorem pick_rev (xs : Array Value) : ((List.range xs.size).filterMap fun (m : Nat) => xs[((xs.size : Int) - 1 + (m : Int) * (-1)).toNat]?).toArray = xs.toList.reverse.toArray := by
  have h := HT.pick_gen xs.reverse 0 xs.size
  have e : ((List.range xs.size).filterMap fun (m : Nat) => xs[((xs.size : Int) - 1 + (m : Int) * (-1)).toNat]?) = (List.range xs.size).filterMap fun (m : Nat) => xs.reverse[(((0 : Nat) : Int) + (m : Int) * 1).toNat]? := by
    refine fm_congr fun m hm => ?_
    have hm := List.mem_range.mp hm
    have h1 : ((xs.size : Int) - 1 + (m : Int) * (-1)).toNat = xs.size - 1 - m := by omega
    have h2 : (((0 : Nat) : Int) + (m : Int) * 1).toNat = m := by omega
    rw [h1, h2, Array.getElem?_reverse hm]
  rw [e, h, List.drop_zero, List.take_of_length_le (by simp)]
  simp
theorem getItem_tuple_rev {t sl : Addr} {items : Array Value} {vs : Value} {Q : Value → Shared → Prop} (ht : IsTup s.heap t items) (hs : s.heap.IsSliceOf sl .none .none vs) (ps : IsPart vs (some (-1)))
    (h : Q (.ref s.heap.objs.size) { s with heap := s.heap.push { cls := .type "tuple", data := .seq items.toList.reverse.toArray } })
    (hsz : items.size ≤ sizeLine) : wpAny (model prog w) A (getItem (.ref t) (.ref sl)) Q E s := by
  have htake : sizeOk (.seq items.toList.reverse.toArray) := by
    show items.toList.reverse.toArray.size ≤ sizeLine
    rw [List.size_toArray, List.length_reverse, Array.length_toList]
    exact hsz
  obtain ⟨os, hos, hcs, hds⟩ := id hs
  have hTs : s.TypeIs (.ref sl) "slice" := ⟨os, hos, hcs⟩
  unfold getItem
  try with_reducible refine wpAny_holding ?_
  first | refine wpAny_bind (wpAny_pure ?_) | skip
  refine wpAny_bind (wpAny_sequenceKey ht.typeIs (by decide) ?_)
  refine wpAny_bind (wpAny_callSpecial?_slot (name := Str.ofString "__getitem__") ht.typeIs PyProof.Rows.slot_tuple_getitem
    (wpAny_call_entry PyProof.Rows.slot_tuple_getitem ht.typeIs PyProof.Rows.entry_tuple_getitem ?_ (PyProof.Rows.args_tuple_getitem _ _)))
  show wpAny _ _ (Builtin.Tuple.tupleItemsOf (.ref t) >>= _) _ _ s
  refine wpAny_bind (tupleItemsOf_ ht ?_)
  refine wpAny_bind (wpAny_typeOf hTs ?_)
  rw [if_pos (by decide)]
  refine wpAny_bind (applied_rev hs ps ?_)
  have hno : ¬ ((((items.size : Int) - 1) == 0 && (-1 : Int) == 1 && items.size == items.size) = true) := by
    rw [show ((-1 : Int) == 1) = false from rfl, Bool.and_false, Bool.false_and]
    exact Bool.false_ne_true
  show wpAny _ _ (if ((((items.size : Int) - 1) == 0 && (-1 : Int) == 1 && items.size == items.size) = true) then _ else _) _ _ s
  rw [if_neg hno, pick_rev]
  first
    | exact wpAny_bind (m := Builtin.Tuple.tupleExact _) (wpAny_newObj_type (wpAny_pure ⟨_, rfl, wpAny_pure h⟩) htake)
    | exact wpAny_bind (m := Builtin.Tuple.tupleExact _) (wpAny_newObj_type (wpAny_bind (wpAny_pure (wpAny_pure ⟨_, rfl, wpAny_pure h⟩))) htake)
    | exact wpAny_bind (wpAny_bind (m := Builtin.Tuple.tupleExact _) (wpAny_newObj_type (wpAny_pure (wpAny_pure ⟨_, rfl, wpAny_pure h⟩)) htake))
    | exact wpAny_bind (wpAny_bind (m := Builtin.Tuple.tupleExact _) (wpAny_newObj_type (wpAny_pure ⟨_, rfl, wpAny_pure h⟩) htake))
end
/-- a tuple backward -/
def tRevT (K : PySem.W.Frag) (te : TE) : TE := fun σ H Q => te σ H fun x H1 => ∃ a xs, x = .ref a ∧ SqT K H1 a xs ∧ ∀ p, H1 p = none → Q (.ref p) (upd H1 p (.tup xs.reverse))
theorem pe_revT {X : Cx} {e : Expr} {te : TE} {k : Nat} {p1 p2 p3 pos : Pos} (he : PE X e te) : PE X (.Subscript e (.Slice none none (some (.UnaryOp .USub (.Constant (.int 1) k p1) p2)) p3) pos) (tRevT X.K te) := by
  refine ⟨fun pins s σ H Q I h => ?_⟩
  refine Subscript_ (thn (he.run pins s σ H _ I h) fun v s1 ⟨x, H1, I1, r1, q1⟩ => ?_)
  obtain ⟨a, xs, ex, hx, q⟩ := q1
  subst ex
  cases r1
  have hst : PO X (some (.UnaryOp .USub (.Constant (.int 1) k p1) p2)) (tPart (tUn (rU fun i => .int (-i)) (tC (.int 1)))) := po_some (pe_un un_neg pe_int)
  refine wpAny_Slice (thn (po_none.run pins s1 σ H1 (fun o H2 => o = none ∧ H2 = H1) I1 ⟨rfl, rfl⟩) fun vl s2 ⟨l, H2, I2, pl, el, e2⟩ => ?_)
  subst el e2
  refine thn (po_none.run pins s2 σ H2 (fun o H3 => o = none ∧ H3 = H2) I2 ⟨rfl, rfl⟩) fun vu s3 ⟨u, H3, I3, pu, eu, e3⟩ => ?_
  subst eu e3
  refine thn (hst.run pins s3 σ H3 (fun o H4 => o = some (-1) ∧ H4 = H3) I3 ⟨1, rfl, -1, rfl, rfl, rfl⟩) fun vs s4 ⟨o, H4, I4, ps, eo, e4⟩ => ?_
  subst eo e4
  have I5 : Inv X pins σ H4 { s4 with heap := s4.heap.push { cls := .type "slice", data := .fields #[vl, vu, vs] } } := I4.kept (t' := s4.toks) fun b ob q => Heap.get?_push_of_some _ q
  obtain ⟨its, r, ht, hz⟩ := I5.tuple hx
  have hlen := r.length
  cases pl
  cases pu
  show wpAny (model X.prog X.w) X.A (subscriptTail e (.Slice none none (some (.UnaryOp .USub (.Constant (.int 1) k p1) p2)) p3) (.ref a) (.ref s4.heap.objs.size)) (EP X pins σ Q) X.xe { s4 with heap := s4.heap.push { cls := .type "slice", data := .fields #[.none, .none, vs] } }
  refine tail_any (ops := [.ref a, .ref s4.heap.objs.size]) ht.typeIs (PyProof.Rows.slot_tuple_getitem.lookup) ?_ (by with_unfolding_all rfl)
  refine getItem_tuple_rev ht (Heap.IsSliceOf.new _ .none .none vs) ps ?_ (by rw [List.size_toArray]; omega)
  refine ⟨.ref _, _, I5.laid (t' := s4.toks) (o := .tup xs.reverse) (fun b ob q => Heap.get?_push_of_some _ q) (Nat.le_refl _) ?_, rfl, q _ (I5.hok.fresh (Nat.le_refl _))⟩
  exact ⟨by rw [List.length_reverse]; exact hz, _, r.reverse, IsTup.new _ _⟩
end Hk
end S_Wx
section S_Wy
namespace Hk
open PySem PySem.Spec PyProof.Rows L2 LamX Tl
/-! ### a call of a def that wants no repr under way -/
theorem pe_callG {X : Cx} {k : Nat} {f : Addr} {fd : FuncData} {ps : List Str} {sp : Sp} {E : XK} {x : Str} {p pos : Pos} {e : Expr} {es : List Expr} {t : TA} (F : FnG X.prog X.w X.K X.mg X.base k f fd ps sp) (hgd : X.A.guards = some []) (hr : Room k X.A) (hg : Gl X x) (hm : X.mg x = some (.ref f))
    (hk : PySem.W.keepIn X.K (.ref f) = true) (hb : Binds X.K fd ps []) (hx : Passes CX0 X E) (ha : PA X (e :: es) t) (hdb : (x == ("__debug__" : Str)) = false := by decide) (he : starEach (e :: es) X.env = (false, eval e X.env) :: starEach es X.env := by rfl)
    (hpl : (backTo pos (starEach es X.env)).any (·.1) = false := by rfl) : PE X (.Call (.Name x p) (e :: es) [] pos) (tCall sp [] E t) := by
  constructor
  intro pins s σ H Q I h
  refine wpAny_Call_Name_kw (ld_glob I hg hm (PySem.W.callWith_K (h₀ := X.base) I.ok.mod.kin hk (thn (ha.run pos pins s σ H _ I h) fun us s1 hv => ?_) he hpl) hdb)
  obtain ⟨vs, H1, I1, r, q⟩ := hv
  rw [List.append_nil] at q
  refine ⟨I1.kIn, wpAny_call (codeAny_mono (F.go hgd hr I1.env0 (by
    have := hb s1 us I1.kIn (by rw [List.append_nil, ← r.length]; exact F.len q)
    rwa [List.append_nil] at this) r q) fun z s' hq => ?_)⟩
  match z, hq with
  | .error e, hq => exact hx pins σ H1 s1 e s' I1 hq
  | .ok (.ret u), hq => exact I1.after hq
  | .ok .next, hq => exact hq.elim
  | .ok .brk, hq => exact hq.elim
  | .ok .cont, hq => exact hq.elim
theorem FnG.mono {P : Program} {w : World} {K : PySem.W.Frag} {mg : Str → Option Value} {base : Heap} {j k : Nat} {f : Addr} {fd : FuncData} {ps : List Str} {sp : Sp} (F : FnG P w K mg base j f fd ps sp) (h : j ≤ k) : FnG P w K mg base k f fd ps sp := ⟨F.len, fun a b c d e g => F.go a (b.mono h) c d e g⟩
theorem addr_snoc {as : List Addr} {p : Addr} {i : Nat} {a : Addr} (h : (as ++ [p])[i]? = some a) : (i < as.length ∧ as[i]? = some a) ∨ (i = as.length ∧ p = a) := by
  rcases Nat.lt_or_ge i as.length with z | z
  · rw [List.getElem?_append_left z] at h
    exact .inl ⟨z, h⟩
  · rw [List.getElem?_append_right z] at h
    rcases Nat.lt_or_ge (i - as.length) 1 with y | y
    · have e : i - as.length = 0 := by omega
      rw [e] at h
      cases h
      exact .inr ⟨by omega, rfl⟩
    · rw [List.getElem?_eq_none (by rw [List.length_singleton]; exact y)] at h
      cases h
section
open Evl
variable {K : PySem.W.Frag} {σ : L2.St} {H : Hp}
/-- a comprehension whose items are new objects, one each -/
theorem go_lcN {wi : TI} {g : TG} {te : TE} {vs : List Nat} {n : Nat} {Y : Nat → Hp → V → Hp → Prop} {s : Nat → L2.St → L2.St} {o : Nat → HO} (hw : EvI wi σ H n Y) (aim : Aims g n Y s) (hs : ∀ i, wipe (s i (wipe σ vs)) vs = wipe σ vs) (hn : n ≤ 90000)
    (he : ∀ i, i < n → ∀ H1, Ex H H1 → ∀ Q : VK, (∀ p H2, H1 p = none → Ex H1 H2 → H2 p = some (o i) → Q (.ref p) H2) → te (s i (wipe σ vs)) H1 Q) (H1 : Hp) (e : Ex H H1) (Q : VK)
    (q : ∀ (D : Addr) (as : List Addr) (H2 : Hp), H1 D = none → Ex H1 H2 → H2 D = some (.lst (as.map V.ref)) → as.length = n → (∀ (i : Nat) (a : Addr), as[i]? = some a → H2 a = some (o i)) → Q (.ref D) H2) :
    tLc wi g tYes te vs σ H1 Q :=
  hw H1 e _ fun J G H2 e2 w sG D hD => lc_it w (fun i H' => Ex H2 H' ∧ ∃ as : List Addr, H' D = some (.lst (as.map V.ref)) ∧ as.length = i ∧ (∀ (k : Nat) (a : Addr), as[k]? = some a → H1 a = none ∧ H' a = some (o k) ∧ a ≠ D))
    ⟨Ex.new hD, [], upd_same, rfl, fun i v h => by simp at h⟩ (fun i H' _ p => sG H' ((e.trans e2).trans p.1) fun a o _ ha => p.1 _ _ ha)
    (fun i x A B hi p y => by
      obtain ⟨p1, as, p3, p4, p5⟩ := p
      obtain ⟨ab, k⟩ := aim i (wipe σ vs) A x B hi y
      refine k _ ⟨hs i, ?_⟩
      show te (s i (wipe σ vs)) B _
      refine he i hi B (((e.trans e2).trans p1).trans ab) _ fun p C hp eC hC => ⟨as.map V.ref, eC _ _ (ab _ _ p3), sz_lt (by rw [List.length_map]; omega), ((p1.trans ab).trans eC).mut hD, as ++ [p], ?_, by rw [List.length_append, p4] <;> rfl, fun j a ha => ?_⟩
      · rw [upd_same, List.map_append]
        rfl
      · rcases addr_snoc ha with ⟨_, ha⟩ | ⟨rfl, rfl⟩
        · obtain ⟨q1, q2, q3⟩ := p5 j a ha
          exact ⟨q1, by rw [upd_ne q3]; exact eC _ _ (ab _ _ q2), q3⟩
        · have pD : p ≠ D := fun z => by rw [z, ab _ _ p3] at hp; cases hp
          exact ⟨fresh_back ((e2.trans p1).trans ab) hp, by rw [upd_ne pD, p4]; exact hC, pD⟩)
    (fun H' p => by
      obtain ⟨p1, as, p3, p4, p5⟩ := p
      exact q D as H' (fresh_back e2 hD) (e2.trans p1) p3 p4 fun i a ha => (p5 i a ha).2.1)
end
end Hk
end S_Wy
section S_Xa
namespace EnL
open PySem PySem.Spec PySem.Calls PyProof.Rows
section
variable {M : Model} {A : Around} {E : Value → Shared → Prop} {s : Shared} {env : Env}
theorem callWith_typeB {pos : Pos} {T : String} {first : List Value} {args : List (Bool × Sem Value)} {keywords : List (Option Str × Sem Value)} {Q : Value → Shared → Prop}
    (hplain : args.any (·.1) = false) (hkw : keywords.any (·.1.isNone) = false)
    (h : wpAny M A (evalArgs (.type T) true args keywords) (fun a s₁ => wpAny M A (call (.type T) (first ++ a.pos) a.kw) Q E s₁) E s) :
    wpAny M A (callWith pos (.type T) first args keywords) Q E s := by
  unfold callWith
  refine wpAny_bind (wpAny_holding (wpAny_mono h (fun a s₁ h₁ => wpAny_bind (wpAny_standAt ?_)) fun _ _ x => x))
  simp only [hplain, hkw, Bool.or_false]
  refine wpAny_bind (wpAny_pure ?_)
  exact wpAny_bind (wpAny_mono h₁ (fun r s₂ hr => wpAny_bind (wpAny_holding (wpAny_point (wpAny_pure hr)))) fun _ _ x => x)
theorem callWith_typeKw {pos : Pos} {T : String} {e : Expr} {rest : List Expr} {kws : List Keyword} {Q : Value → Shared → Prop}
    (h : wpAny M A (spliced (backTo pos (starEach (e :: rest) env))) (fun vs s₁ => wpAny M A (evalAll ((backToKw pos (keywordEach kws env)).map (·.2)))
      (fun kvs s₂ => wpAny M A (call (.type T) vs (((backToKw pos (keywordEach kws env)).filterMap (·.1)).zip kvs)) Q E s₂) E s₁) E s)
    (he : backTo pos (starEach (e :: rest) env) = (false, eval e env) :: backTo pos (starEach rest env) := by rfl)
    (hplain : (backTo pos (starEach (e :: rest) env)).any (·.1) = false := by rfl)
    (hall : (backToKw pos (keywordEach kws env)).all (·.1.isSome) = true := by rfl)
    (hkw : (backToKw pos (keywordEach kws env)).any (·.1.isNone) = false := by rfl) :
    wpAny M A (callWith pos (.type T) [] (backTo pos (starEach (e :: rest) env)) (backToKw pos (keywordEach kws env))) Q E s := by
  refine callWith_typeB hplain hkw ?_
  rw [he] at h ⊢
  exact evalArgs_kwB hall h
end
/-- the counter's result tuple is held by another -/
abbrev EnOut (h : Heap) (e it : Addr) (c : Int) (old : Value) (a : Addr) (f : Bool) : Prop :=
  h.get? e = some { cls := .type "enumerate", dict := none, data := .fields #[rawInt a, .bool f, .ref it, rawInt c, .none, old], slots := #[] }
section
variable {prog : Program} {w : World} {A : Around} {E : Value → Shared → Prop} {s : Shared}
theorem next_out0 {e it l a : Addr} {oa : Obj} {i : Nat} {c : Int} {items : Array Value} {x old : Value} {f : Bool} {Q : Value → Shared → Prop}
    (he : EnOut s.heap e it c old a f) (ha : s.heap.get? a = some oa) (hae : a ≠ e) (hai : a ≠ it) (hit : s.heap.IsListIter it l i) (hl : s.heap.IsList l items) (hx : items[i]? = some x) (hne : e ≠ it)
    (hQ : ∀ h', EnOut h' e it (c + 1) old a true → h'.IsListIter it l (i + 1) →
      h'.get? s.heap.objs.size = some { cls := .type "tuple", data := .seq #[.int c s.toks, x] } → h'.objs.size = s.heap.objs.size + 1 →
      (∀ b o, b ≠ e → b ≠ it → s.heap.get? b = some o → h'.get? b = some o) → Q (.ref s.heap.objs.size) { s with heap := h', toks := s.toks + 1 }) :
    wpAny (model prog w) A (Builtin.«enumerate.__next__» ⟨[.ref e], []⟩) (fun fin s' => ∃ v, fin = .done (.ret v) ∧ Q v s') E s := by
  obtain ⟨hp, g, d, tk, os⟩ := s
  show wpAny _ _ (field (.ref e) 2 >>= _) _ _ _
  refine wpAny_bind (wpAny_field he rfl (x := .ref it) rfl ?_)
  refine wpAny_bind (wpAny_nextOf_list_item hit hl hx fun h₁ hit₁ hs₁ => ?_)
  replace hs₁ : Heap.SameBut it hp h₁ := hs₁
  have he₁ : EnOut h₁ e it c old a f := (hs₁.2 e hne).trans he
  show wpAny _ _ (field (.ref e) 3 >>= _) _ _ ⟨h₁, g, d, tk, os⟩
  refine wpAny_bind (wpAny_field he₁ rfl (x := rawInt c) rfl ?_)
  show wpAny _ _ (field (.ref e) 4 >>= _) _ _ ⟨h₁, g, d, tk, os⟩
  refine wpAny_bind (wpAny_field he₁ rfl (x := .none) rfl ?_)
  show wpAny _ _ (mkInt c >>= _) _ _ ⟨h₁, g, d, tk, os⟩
  refine wpAny_bind (wpAny_mkInt ?_)
  show wpAny _ _ (setField (.ref e) 3 (rawInt (c + 1)) >>= _) _ _ ⟨h₁, g, d, tk + 1, os⟩
  refine wpAny_bind (wpAny_setField_rec he₁ (by simp) fun h₂ he₂ hs₂ => ?_)
  replace hs₂ : Heap.SameBut e h₁ h₂ := hs₂
  replace he₂ : EnOut h₂ e it (c + 1) old a f := he₂
  show wpAny _ _ (setField (.ref e) 4 .none >>= _) _ _ ⟨h₂, g, d, tk + 1, os⟩
  refine wpAny_bind (wpAny_setField_rec he₂ (by simp) fun h₃ he₃ hs₃ => ?_)
  replace hs₃ : Heap.SameBut e h₂ h₃ := hs₃
  replace he₃ : EnOut h₃ e it (c + 1) old a f := he₃
  show wpAny _ _ (newTuple [.int c tk, x] >>= _) _ _ ⟨h₃, g, d, tk + 1, os⟩
  refine wpAny_bind (wpAny_newTuple ?_)
  have he₄ : EnOut (h₃.push { cls := .type "tuple", data := .seq #[.int c tk, x] }) e it (c + 1) old a f := Heap.get?_push_of_some _ he₃
  generalize hh₄ : h₃.push { cls := .type "tuple", data := .seq #[.int c tk, x] } = h₄ at he₄
  have hsz : h₃.objs.size = hp.objs.size := by rw [hs₃.1, hs₂.1, hs₁.1]
  have hel : e < hp.objs.size := Heap.lt_size he
  have ht₄ : h₄.get? hp.objs.size = some { cls := .type "tuple", data := .seq #[.int c tk, x] } := by rw [← hh₄, ← hsz]; exact Heap.get?_push_size _ rfl
  have hz₄ : h₄.objs.size = hp.objs.size + 1 := by rw [← hh₄, Heap.size_push, hsz]
  have hk₄ : ∀ b o, b ≠ e → b ≠ it → hp.get? b = some o → h₄.get? b = some o := fun b o hbe hbi hb => by
    rw [← hh₄]; exact Heap.get?_push_of_some _ (hs₃.extBut b o hbe (hs₂.extBut b o hbe (hs₁.extBut b o hbi hb)))
  have hit₄ : h₄.IsListIter it l (i + 1) := by
    rw [← hh₄]; obtain ⟨o, ho, r⟩ := (hit₁.extBut hs₂.extBut (Ne.symm hne)).extBut hs₃.extBut (Ne.symm hne); exact ⟨o, Heap.get?_push_of_some _ ho, r⟩
  have ha₄ := hk₄ a oa hae hai ha
  show wpAny _ _ (Builtin.SmallTypes.ownedTupleIsFree (.ref e) >>= _) _ _ ⟨h₄, g, d, tk + 1, os⟩
  rw [hsz]
  clear hh₄ he₃ hs₃ he₂ hs₂ he₁ hs₁ hit₁ hsz h₃ h₂ h₁
  refine wpAny_bind ?_
  unfold Builtin.SmallTypes.ownedTupleIsFree
  refine wpAny_bind (wpAny_field he₄ rfl (x := rawInt a) rfl ?_)
  show wpAny _ _ (loadIfAlive ((a : Int).toNat) >>= _) _ _ _
  rw [Int.toNat_natCast]
  refine wpAny_bind (PySem.W.kdx_alive ha₄ ?_)
  simp only [Option.isNone_some, Bool.false_eq_true, if_false]
  refine wpAny_bind (wpAny_field he₄ rfl (x := .bool f) rfl ?_)
  have fin : ∀ h₅ : Heap, EnOut h₅ e it (c + 1) old a true → Heap.SameBut e h₄ h₅ → Q (.ref hp.objs.size) ⟨h₅, g, d, tk + 1, os⟩ := fun h₅ he₅ hs₅ =>
    hQ h₅ he₅ (hit₄.extBut hs₅.extBut (Ne.symm hne)) (hs₅.extBut _ _ (Nat.ne_of_gt hel) ht₄) (by show h₅.objs.size = hp.objs.size + 1; rw [hs₅.1, hz₄]) fun b o hbe hbi hb => hs₅.extBut b o hbe (hk₄ b o hbe hbi hb)
  cases f with
  | true =>
    rw [if_neg (show ¬ ((Value.bool true != Value.bool true) = true) from Bool.false_ne_true)]
    refine wpAny_pure ?_
    simp only [Bool.false_eq_true, if_false]
    exact wpAny_pure ⟨_, rfl, fin h₄ he₄ (Heap.SameBut.refl _ _)⟩
  | false =>
    rw [if_pos (show (Value.bool false != Value.bool true) = true from rfl)]
    refine wpAny_bind (wpAny_setField_rec he₄ (by simp) fun h₅ he₅ hs₅ => ?_)
    replace hs₅ : Heap.SameBut e h₄ h₅ := hs₅
    replace he₅ : EnOut h₅ e it (c + 1) old a true := he₅
    refine wpAny_pure ?_
    simp only [Bool.false_eq_true, if_false]
    exact wpAny_pure ⟨_, rfl, fin h₅ he₅ hs₅⟩
theorem next_out {e it l a : Addr} {oa : Obj} {i : Nat} {c : Int} {items : Array Value} {x old : Value} {f : Bool} {Q : Option Value → Shared → Prop}
    (he : EnOut s.heap e it c old a f) (ha : s.heap.get? a = some oa) (hae : a ≠ e) (hai : a ≠ it) (hit : s.heap.IsListIter it l i) (hl : s.heap.IsList l items) (hx : items[i]? = some x) (hne : e ≠ it)
    (hQ : ∀ h', EnOut h' e it (c + 1) old a true → h'.IsListIter it l (i + 1) →
      h'.get? s.heap.objs.size = some { cls := .type "tuple", data := .seq #[.int c s.toks, x] } → h'.objs.size = s.heap.objs.size + 1 →
      (∀ b o, b ≠ e → b ≠ it → s.heap.get? b = some o → h'.get? b = some o) → Q (some (.ref s.heap.objs.size)) { s with heap := h', toks := s.toks + 1 }) :
    wpAny (model prog w) A (pyNext (.ref e)) Q E s := by
  have hT : s.TypeIs (.ref e) "enumerate" := ⟨_, he, rfl⟩
  unfold pyNext
  exact wpAny_bind (wpAny_attempt (wpAny_callSpecial?_slot (name := Str.ofString "__next__") hT F.slot_enumerate_next
    (wpAny_call_entry F.slot_enumerate_next hT F.entry_enumerate_next
      (next_out0 he ha hae hai hit hl hx hne fun h' p q r t k => wpAny_pure (hQ h' p q r t k)) (F.args_enumerate_next_1 _))))
theorem end_out {e it l : Addr} {i : Nat} {items : Array Value} {Q : Option Value → Shared → Prop} {d : Array Value} (hh : A.handled = none)
    (he : s.heap.get? e = some { cls := .type "enumerate", dict := none, data := .fields d, slots := #[] }) (hd : d[2]? = some (.ref it)) (hit : s.heap.IsListIter it l i) (hl : s.heap.IsList l items) (hx : items[i]? = none)
    (hQ : ∀ h', Heap.ExtBut it s.heap h' → Q none { s with heap := h' }) : wpAny (model prog w) A (pyNext (.ref e)) Q E s := by
  have hT : s.TypeIs (.ref e) "enumerate" := ⟨_, he, rfl⟩
  unfold pyNext
  refine wpAny_bind (wpAny_attempt (wpAny_callSpecial?_slot (name := Str.ofString "__next__") hT F.slot_enumerate_next
    (wpAny_call_entry F.slot_enumerate_next hT F.entry_enumerate_next ?_ (F.args_enumerate_next_1 _))))
  show wpAny _ _ (field (.ref e) 2 >>= _) _ _ _
  refine wpAny_bind (wpAny_field he rfl (x := .ref it) hd ?_)
  refine wpAny_bind (wpAny_nextOf_list_end hh hit hl hx fun h' x he' hx' => ?_)
  obtain ⟨o, ho, hc⟩ := hx'
  refine wpAny_bind (wpAny_isInstance (T := "StopIteration") (b := true) ⟨o, ho, hc⟩ isSubtype_stop ?_)
  exact wpAny_pure (hQ _ he')
end
end EnL
end S_Xa
section S_Xb
namespace EnL
open PySem PySem.Spec PySem.Calls PyProof.Rows
section
variable {prog : Program} {w : World} {A : Around} {E : Value → Shared → Prop} {s : Shared}
def EnSt (h : Heap) (e it S : Addr) (i : Nat) (c : Int) : Prop := (i = 0 ∧ IsEnum h e it c .none) ∨ ∃ old a f oa, EnOut h e it (c + i) old a f ∧ h.get? a = some oa ∧ a ≠ e ∧ a ≠ it ∧ a ≠ S
theorem EnSt.keep {h h' : Heap} {e it S : Addr} {i : Nat} {c : Int} (x : EnSt h e it S i c) (hk : ∀ b o, b ≠ S → h.get? b = some o → h'.get? b = some o) (he : e ≠ S) : EnSt h' e it S i c := by
  rcases x with ⟨z, q⟩ | ⟨old, a, f, oa, q, ha, h1, h2, h3⟩
  · exact .inl ⟨z, hk _ _ he q⟩
  · exact .inr ⟨old, a, f, oa, hk _ _ he q, hk _ _ h3 ha, h1, h2, h3⟩
theorem list_ne {h : Heap} {l e : Addr} {items : Array Value} {o : Obj} (p : h.IsList l items) (q : h.get? e = some o) (hc : o.cls ≠ .type "list") : l ≠ e := fun z => by
  obtain ⟨u, hu, hcu, _⟩ := p
  rw [z, q] at hu
  cases hu
  exact hc hcu
theorem EnSt.obj {h : Heap} {e it S : Addr} {i : Nat} {c : Int} (x : EnSt h e it S i c) : ∃ o, h.get? e = some o ∧ o.cls = .type "enumerate" := by
  rcases x with ⟨z, q⟩ | ⟨old, a, f, oa, q, _⟩
  · exact ⟨_, q, rfl⟩
  · exact ⟨_, q, rfl⟩
theorem en_item {e it l S : Addr} {i : Nat} {c : Int} {items : Array Value} {x : Value} {Q : Option Value → Shared → Prop} (hh : A.handled = none) (hst : EnSt s.heap e it S i c) (hS : S < s.heap.objs.size)
    (hit : s.heap.IsListIter it l i) (hl : s.heap.IsList l items) (hx : items[i]? = some x) (hne : e ≠ it) (hli : l ≠ it)
    (hQ : ∀ h' tk, EnSt h' e it S (i + 1) c → h'.IsListIter it l (i + 1) → h'.get? s.heap.objs.size = some { cls := .type "tuple", data := .seq #[.int (c + i) tk, x] } → h'.objs.size = s.heap.objs.size + 1 →
      (∀ b o, b ≠ e → b ≠ it → s.heap.get? b = some o → h'.get? b = some o) → Q (some (.ref s.heap.objs.size)) { s with heap := h', toks := tk + 1 }) :
    wpAny (model prog w) A (pyNext (.ref e)) Q E s := by
  have e1 : c + ((i + 1 : Nat) : Int) = c + (i : Int) + 1 := by omega
  have iti : it < s.heap.objs.size := by obtain ⟨o, ho, _⟩ := hit; exact Heap.lt_size ho
  rcases hst with ⟨rfl, q⟩ | ⟨old, a, f, oa, q, ha, h1, h2, h3⟩
  · have hle : l ≠ e := list_ne hl q fun z => absurd (Value.type.inj z) (by decide)
    have hlt : 0 < items.size := by
      have := (Array.getElem?_eq_some_iff.mp hx).1
      exact this
    refine wpAny_pyNext_enum_itemC (Draws.list (show A.in1.handled = none from hh) it l hli items) q ⟨hit, hl⟩ hlt hne (by simp [hne, Ne.symm hle]) fun y g tk hy ho hst' ht hz hk => ?_
    have hy : y = x := by
      rw [hx] at hy
      exact (Option.some.inj hy).symm
    subst hy
    have e0 : c + ((0 : Nat) : Int) = c := by omega
    refine hQ g tk (.inr ⟨y, s.heap.objs.size, false, _, ?_, ht, Nat.ne_of_gt (Heap.lt_size q), Nat.ne_of_gt iti, Nat.ne_of_gt hS⟩) hst'.1 (by rw [e0]; exact ht) hz hk
    rw [e1, e0]
    exact ho
  · refine next_out q ha h1 h2 hit hl hx hne fun g hg hit' ht hz hk => ?_
    refine hQ g s.toks (.inr ⟨old, a, true, oa, ?_, hk a oa h1 h2 ha, h1, h2, h3⟩) hit' ht hz hk
    rw [e1]
    exact hg
theorem en_done {e it l S : Addr} {i : Nat} {c : Int} {items : Array Value} {Q : Option Value → Shared → Prop} (hh : A.handled = none) (hst : EnSt s.heap e it S i c) (hit : s.heap.IsListIter it l i) (hl : s.heap.IsList l items) (hx : items[i]? = none)
    (hQ : ∀ h', Heap.ExtBut it s.heap h' → Q none { s with heap := h' }) : wpAny (model prog w) A (pyNext (.ref e)) Q E s := by
  rcases hst with ⟨rfl, q⟩ | ⟨old, a, f, oa, q, _⟩
  · exact end_out hh q rfl hit hl hx hQ
  · exact end_out hh q rfl hit hl hx hQ
structure EnG (c : Int) (items : Array Value) (lo : Addr) (h : Heap) (as : List Addr) : Prop where
  rise : as.Pairwise (· < ·)
  above : ∀ a ∈ as, lo < a
  pairs : ∀ (j : Nat) (a : Addr), as[j]? = some a → ∃ t x, items[j]? = some x ∧ h.get? a = some { cls := .type "tuple", data := .seq #[.int (c + j) t, x] }
theorem EnG.there {c : Int} {items : Array Value} {lo : Addr} {h : Heap} {as : List Addr} (g : EnG c items lo h as) {a : Addr} (ha : a ∈ as) : a < h.objs.size := by
  obtain ⟨j, hj⟩ := List.mem_iff_getElem?.mp ha
  obtain ⟨_, _, _, e⟩ := g.pairs j a hj
  exact Heap.lt_size e
end
section
variable {prog : Program} {w : World} {A : Around} {s : Shared} {R : Result → Shared → Prop}
theorem en_loop {S e it l : Addr} {c : Int} {items : Array Value} (hh : A.handled = none) (heS : e < S) (hiS : it < S) (hlS : l < S) (hne : e ≠ it) (hli : l ≠ it) (hle : l ≠ e) (hn : items.size ≤ sizeLine) (res : Value) {h₁ : Heap}
    (hR : ∀ h' tk acc k as, (∀ b o, b ≠ S → b ≠ e → b ≠ it → h₁.get? b = some o → h'.get? b = some o) → h'.get? S = some { cls := .type "list", dict := none, data := .seq acc k, slots := #[] } → as.length = items.size → EnG c items S h' as →
      acc.toList = as.map Value.ref → R (.ok (.ret res)) { s with heap := h', toks := tk }) :
    ∀ (m i : Nat) (h : Heap) (tk k : Nat) (acc : Array Value) (as : List Addr), items.size - i = m → i ≤ items.size → EnSt h e it S i c → h.IsListIter it l i → h.IsList l items → (∀ b o, b ≠ S → b ≠ e → b ≠ it → h₁.get? b = some o → h.get? b = some o) →
      h.get? S = some { cls := .type "list", dict := none, data := .seq acc k, slots := #[] } → acc.toList = as.map Value.ref → as.length = i → EnG c items S h as →
      codeAny (model prog w) A (.builtin "list.extend.loop" ⟨[.ref S, .ref e, res], []⟩) R { s with heap := h, toks := tk } := by
  intro m
  induction m with
  | zero =>
    intro i h tk k acc as hk hi hst hit hL hkeep hS hacc hal hG
    have hin : i = items.size := by omega
    refine codeAny_builtin PySem.F.entry_extend_loop ?_
    rw [Around.under_plainId PySem.F.plain_extend_loop _]
    show wpAny _ A.in1 (pyNext (.ref e) >>= _) _ _ _
    refine wpAny_bind (en_done (s := { s with heap := h, toks := tk }) (A := A.in1) hh hst hit hL (Array.getElem?_eq_none (by omega)) fun h' he => ?_)
    refine wpAny_pure (hR h' tk acc k as (fun b o h1 h2 h3 e => he b o h3 (hkeep b o h1 h2 h3 e)) (he S _ (Nat.ne_of_gt hiS) hS) (by omega) ⟨hG.rise, hG.above, fun j a hj => ?_⟩ hacc)
    obtain ⟨t, x, e1, e3⟩ := hG.pairs j a hj
    exact ⟨t, x, e1, he a _ (Nat.ne_of_gt (Nat.lt_trans hiS (hG.above a (List.mem_of_getElem? hj)))) e3⟩
  | succ m ih =>
    intro i h tk k acc as hk hi hst hit hL hkeep hS hacc hal hG
    have hlt : i < items.size := by omega
    obtain ⟨x, hx⟩ : ∃ p, items[i]? = some p := ⟨items[i], by simp [hlt]⟩
    have hsz : acc.size = i := by rw [← Array.length_toList, hacc, List.length_map, hal]
    refine codeAny_builtin PySem.F.entry_extend_loop ?_
    rw [Around.under_plainId PySem.F.plain_extend_loop _]
    show wpAny _ A.in1 (pyNext (.ref e) >>= _) _ _ _
    refine wpAny_bind (en_item (s := { s with heap := h, toks := tk }) (A := A.in1) (S := S) hh hst (Heap.lt_size hS) hit hL hx hne hli fun h' tk' hst' hit' ht hz hkp => ?_)
    dsimp only at ht hz hkp ⊢
    have hSl : S < h.objs.size := Heap.lt_size hS
    have hS' := hkp S _ (Nat.ne_of_gt heS) (Nat.ne_of_gt hiS) hS
    have up : ∀ b o, b ≠ S → h'.get? b = some o → (h'.update S (Obj.mapSeq (·.push (Value.ref h.objs.size)))).get? b = some o := fun b o hb e => (Heap.get?_update_other _ _ (Ne.symm hb)).trans e
    show wpAny _ A.in1 (updateSeq S (·.push (Value.ref h.objs.size)) >>= _) _ _ _
    refine wpAny_bind ?_
    refine wpAny_updateSeq hS' rfl (wpAny_pure ⟨plainId_quiet PySem.F.plain_extend_loop _, ih (i + 1) _ (tk' + 1) _ (acc.push (Value.ref h.objs.size)) (as ++ [h.objs.size]) (by omega) hlt (hst'.keep up (Nat.ne_of_lt heS)) (hit'.at fun o e => up it o (Nat.ne_of_lt hiS) e)
      (let ⟨o, ho, r⟩ := hL; ⟨o, up l o (Nat.ne_of_lt hlS) (hkp l o hle hli ho), r⟩) (fun b o h1 h2 h3 e => up b o h1 (hkp b o h2 h3 (hkeep b o h1 h2 h3 e))) (Heap.get?_update_self _ hS' rfl) (by rw [Array.toList_push, hacc, List.map_append]; rfl) (by rw [List.length_append, hal]; rfl) ⟨?_, ?_, ?_⟩⟩) (by rw [hsz]; omega) (by show (acc.push (Value.ref h.objs.size)).size ≤ sizeLine + 1; rw [Array.size_push, hsz]; omega)
    · refine List.pairwise_append.mpr ⟨hG.rise, List.pairwise_singleton _ _, fun a ha b hb => ?_⟩
      rw [List.mem_singleton.mp hb]
      exact hG.there ha
    · intro a ha
      rcases List.mem_append.mp ha with ha | ha
      · exact hG.above a ha
      · rw [List.mem_singleton.mp ha]; exact hSl
    · intro j b hj
      rcases Nat.lt_trichotomy j as.length with h1 | h1 | h1
      · rw [List.getElem?_append_left h1] at hj
        obtain ⟨t, x', e1, e3⟩ := hG.pairs j b hj
        have hb := hG.above b (List.mem_of_getElem? hj)
        exact ⟨t, x', e1, up b _ (Nat.ne_of_gt hb) (hkp b _ (Nat.ne_of_gt (Nat.lt_trans heS hb)) (Nat.ne_of_gt (Nat.lt_trans hiS hb)) e3)⟩
      · subst h1
        have hb : h.objs.size = b := by simpa using hj
        subst hb
        exact ⟨tk', x, by rw [hal]; exact hx, up _ _ (Nat.ne_of_gt hSl) (by rw [hal]; exact ht)⟩
      · have hnone : (as ++ [h.objs.size])[j]? = none := List.getElem?_eq_none (by rw [List.length_append, List.length_singleton]; omega)
        rw [hnone] at hj; cases hj
end
theorem en_no_len : typeLookup (.type "enumerate") "__len__" = pure none := by rw [typeLookup_type, builtinLookup_eq_fast]; kernel_rfl
theorem en_no_hint : typeLookup (.type "enumerate") "__length_hint__" = pure none := by rw [typeLookup_type, builtinLookup_eq_fast]; kernel_rfl
end EnL
end S_Xb
section S_Xc
namespace EnL
open PySem PySem.Spec PySem.Calls PyProof.Rows
section
variable {prog : Program} {w : World} {A : Around} {E : Value → Shared → Prop} {s : Shared}
theorem en_extend {R : Result → Shared → Prop} {S e it l : Addr} {c : Int} {items : Array Value} (hh : A.handled = none) (heS : e < S) (hiS : it < S) (hlS : l < S) (hne : e ≠ it) (hli : l ≠ it) (hle : l ≠ e) (hn : items.size ≤ sizeLine) (res : Value) (c₀ : Nat)
    (he : IsEnum s.heap e it c .none) (hit : s.heap.IsListIter it l 0) (hl : s.heap.IsList l items) (hS : s.heap.get? S = some { cls := .type "list", data := .seq #[] c₀ })
    (hR : ∀ h' tk acc k as, (∀ b o, b ≠ S → b ≠ e → b ≠ it → s.heap.get? b = some o → h'.get? b = some o) → h'.get? S = some { cls := .type "list", dict := none, data := .seq acc k, slots := #[] } → as.length = items.size → EnG c items S h' as →
      acc.toList = as.map Value.ref → R (.ok (.ret res)) { s with heap := h', toks := tk }) :
    wpAny (model prog w) A.in1 (Builtin.List.listExtendWith (.ref S) (.ref e) res)
      (fun fin s' => match fin with | .done f => R (.ok f) s' | .again c' => c'.quiet = true ∧ codeAny (model prog w) A c' R s') (fun e s' => R (.error e) s') s := by
  have hT : s.TypeIs (.ref e) "enumerate" := ⟨_, he, rfl⟩
  unfold Builtin.List.listExtendWith
  refine wpAny_bind (wpAny_typeOf hT ?_)
  have h1 : Builtin.List.listSameRef (.ref S) (.ref e) = false := by simp [Builtin.List.listSameRef, Nat.ne_of_gt heS]
  have h2 : (Value.type "enumerate" == Value.type "list") = false := by decide
  have h3 : (Value.type "enumerate" == Value.type "tuple") = false := by decide
  simp only [h1, h2, h3, Bool.or_false, Bool.false_eq_true, if_false]
  refine wpAny_bind (wpAny_pyIter_enum he ?_)
  refine wpAny_bind (wpAny_holding ?_)
  unfold Builtin.List.listLengthHint
  refine wpAny_bind (wpAny_specialOf hT en_no_len ?_)
  show wpAny _ A.in1 (specialOf (Value.ref e) (Str.ofString "__length_hint__") >>= _) _ _ _
  refine wpAny_bind (wpAny_specialOf hT en_no_hint ?_)
  refine wpAny_pure ?_
  show wpAny _ A.in1 (rule "list.extend.makes-room" >>= fun _ => Builtin.List.listTouch (.ref S) >>= fun _ =>
    again (.builtin "list.extend.loop" ⟨[.ref S, .ref e, res], []⟩)) _ _ _
  refine wpAny_bind (wpAny_rule ?_)
  refine wpAny_bind ?_
  show wpAny _ A.in1 (updateSeq S (·.push .none) >>= fun _ => updateSeq S (·.pop)) _ _ _
  refine wpAny_bind (wpAny_updateSeq hS rfl ?_)
  have hS₂ := Heap.get?_update_self (Obj.mapSeq (·.push Value.none)) hS rfl
  refine wpAny_updateSeq (hz := by seq_fits) hS₂ rfl ?_
  have hS₃ := Heap.get?_update_self (Obj.mapSeq (·.pop)) hS₂ rfl
  have oth : ∀ b o, b ≠ S → s.heap.get? b = some o → ((s.heap.update S (Obj.mapSeq (·.push Value.none))).update S (Obj.mapSeq (·.pop))).get? b = some o :=
    fun b o hb e => (Heap.get?_update_other _ _ (Ne.symm hb)).trans ((Heap.get?_update_other _ _ (Ne.symm hb)).trans e)
  refine wpAny_pure ⟨plainId_quiet PySem.F.plain_extend_loop _, en_loop (s := s) (h₁ := s.heap) hh heS hiS hlS hne hli hle hn res hR items.size 0 _ _ _ #[] [] (Nat.sub_zero _) (Nat.zero_le _) (.inl ⟨rfl, oth _ _ (Nat.ne_of_lt heS) he⟩)
    (hit.at fun o e => oth it o (Nat.ne_of_lt hiS) e) (let ⟨o, ho, r⟩ := hl; ⟨o, oth l o (Nat.ne_of_lt hlS) ho, r⟩) (fun b o hb _ _ e => oth b o hb e) hS₃ rfl rfl ⟨List.Pairwise.nil, (fun _ ha => nomatch ha), (fun j a hj => by simp at hj)⟩⟩
theorem en_init {R : Result → Shared → Prop} {S e it l : Addr} {c : Int} {items : Array Value} (hh : A.handled = none) (heS : e < S) (hiS : it < S) (hlS : l < S) (hne : e ≠ it) (hli : l ≠ it) (hle : l ≠ e) (hn : items.size ≤ sizeLine)
    (he : IsEnum s.heap e it c .none) (hit : s.heap.IsListIter it l 0) (hl : s.heap.IsList l items) (hS : s.heap.get? S = some { cls := .type "list", data := .seq #[] })
    (hR : ∀ h' tk acc k as, (∀ b o, b ≠ S → b ≠ e → b ≠ it → s.heap.get? b = some o → h'.get? b = some o) → h'.get? S = some { cls := .type "list", dict := none, data := .seq acc k, slots := #[] } → as.length = items.size → EnG c items S h' as →
      acc.toList = as.map Value.ref → R (.ok (.ret .none)) { s with heap := h', toks := tk }) :
    wpAny (model prog w) A.in1 (Builtin.«list.__init__» ⟨[.ref S, .ref e], []⟩)
      (fun fin s' => match fin with | .done f => R (.ok f) s' | .again c' => c'.quiet = true ∧ codeAny (model prog w) A c' R s') (fun e s' => R (.error e) s') s := by
  show wpAny _ _ (do let old ← Builtin.List.listItems (.ref S); Builtin.List.listUpdate (.ref S) (fun _ => #[]); letGo old.toList.reverse; Builtin.List.listExtendWith (.ref S) (.ref e) .none) _ _ s
  refine wpAny_bind ?_
  unfold Builtin.List.listItems
  refine wpAny_bind (wpAny_seqItems hS rfl (wpAny_pure ?_))
  show wpAny _ _ (updateSeq S (fun _ => #[]) >>= fun _ => letGo (#[] : Array Value).toList.reverse >>= fun _ => Builtin.List.listExtendWith (.ref S) (.ref e) .none) _ _ s
  refine wpAny_bind (wpAny_updateSeq hS rfl ?_)
  have hS₂ := Heap.get?_update_self (Obj.mapSeq (fun _ => (#[] : Array Value))) hS rfl
  have oth : ∀ b o, b ≠ S → s.heap.get? b = some o → (s.heap.update S (Obj.mapSeq (fun _ => (#[] : Array Value)))).get? b = some o :=
    fun b o hb e => (Heap.get?_update_other _ _ (Ne.symm hb)).trans e
  refine wpAny_bind (wpAny_letGo ?_)
  refine en_extend (c := c) hh heS hiS hlS hne hli hle hn .none _ (oth _ _ (Nat.ne_of_lt heS) he) (hit.at fun o e => oth it o (Nat.ne_of_lt hiS) e) (let ⟨o, ho, r⟩ := hl; ⟨o, oth l o (Nat.ne_of_lt hlS) ho, r⟩) hS₂ fun h' tk acc k as hk hS' hl' hG hacc => ?_
  exact hR h' tk acc k as (fun b o hb h2 h3 e => hk b o hb h2 h3 (oth b o hb e)) hS' hl' hG hacc
theorem en_call {Q : Value → Shared → Prop} {e it l : Addr} {c : Int} {items : Array Value} (hh : A.handled = none) (hne : e ≠ it) (hli : l ≠ it) (hle : l ≠ e) (hn : items.size ≤ sizeLine)
    (he : IsEnum s.heap e it c .none) (hit : s.heap.IsListIter it l 0) (hl : s.heap.IsList l items)
    (hQ : ∀ h' tk acc k as, (∀ b o, b ≠ e → b ≠ it → s.heap.get? b = some o → h'.get? b = some o) → h'.get? s.heap.objs.size = some { cls := .type "list", dict := none, data := .seq acc k, slots := #[] } → as.length = items.size → EnG c items s.heap.objs.size h' as →
      acc.toList = as.map Value.ref → Q (.ref s.heap.objs.size) { s with heap := h', toks := tk }) :
    wpAny (model prog w) A (call (.type "list") [.ref e]) Q E s := by
  refine callType_codes (Q₁ := fun obj s₁ => obj = .ref s.heap.objs.size ∧ s₁ = { s with heap := s.heap.push { cls := .type "list", data := .seq #[] } }) PySem.F.called_list (PySem.F.typeCall_list_1 _) PySem.F.entry_list_init
    (code_list_new _ ⟨rfl, rfl⟩) fun obj s₁ h₁ => ?_
  obtain ⟨rfl, rfl⟩ := h₁
  have hS : (s.heap.push { cls := .type "list", data := .seq #[] }).get? s.heap.objs.size = some { cls := .type "list", data := .seq #[] } := Heap.get?_push_size _ rfl
  have le : e < s.heap.objs.size := Heap.lt_size he
  have li : it < s.heap.objs.size := let ⟨_, ho, _⟩ := hit; Heap.lt_size ho
  have ll : l < s.heap.objs.size := let ⟨_, ho, _⟩ := hl; Heap.lt_size ho
  refine ⟨⟨_, hS, rfl⟩, PySem.F.args_list_init_2 _ _, en_init (c := c) (A := A.in1) hh le li ll hne hli hle hn (Heap.get?_push_of_some _ he) (hit.at fun o e => Heap.get?_push_of_some _ e) (let ⟨o, ho, r⟩ := hl; ⟨o, Heap.get?_push_of_some _ ho, r⟩) hS (fun h' tk acc k as hk hS' hl' hG hacc => ?_)⟩
  exact ⟨rfl, hQ h' tk acc k as (fun b o h2 h3 e => hk b o (Nat.ne_of_lt (Heap.lt_size e)) h2 h3 (Heap.get?_push_of_some _ e)) hS' hl' hG hacc⟩
end
end EnL
end S_Xc
section S_Xd
namespace EnL
open PySem PySem.Spec PyProof.Rows L2 LiI
theorem laidS {X : Cx} {pins : List (Addr × Obj)} {σ : L2.St} {H : Hp} {s : Shared} {h' : Heap} {tk : Nat} {kvs : List (L2.Key × V)} {acc : Array Value} {c S : Nat} {as : List Addr} (I : Inv X pins σ H s) (hz : kvs.length ≤ sizeLine) (hS0 : s.heap.objs.size ≤ S)
    (hk : ∀ b o, s.heap.get? b = some o → h'.get? b = some o) (hS : h'.get? S = some { cls := .type "list", dict := none, data := .seq acc c, slots := #[] }) (hl : as.length = kvs.length) (rise : as.Pairwise (· < ·)) (above : ∀ a ∈ as, S < a)
    (hG : ∀ (j : Nat) (a : Addr), as[j]? = some a → ∃ pk key x, kvs[j]? = some pk ∧ RelV (kV pk.1) key ∧ RelV pk.2 x ∧ h'.get? a = some { cls := .type "tuple", data := .seq #[key, x] }) (hacc : acc.toList = as.map Value.ref) :
    ∃ H' : Hp, (∀ b o, H b = some o → H' b = some o) ∧ H S = none ∧ (∀ t ∈ as, H t = none) ∧ S ∉ as ∧ H' S = some (.lst (as.map V.ref)) ∧ Paired (fun (t : Addr) (q : L2.Key × V) => H' t = some (.tup [kV q.1, q.2])) as kvs ∧ Inv X pins σ H' { s with heap := h', toks := tk } := by
  have hSn : S ∉ as := fun z => Nat.lt_irrefl _ (above _ z)
  have nd : as.Nodup := List.Pairwise.imp (fun {a b} (h : a < b) => Nat.ne_of_lt h) rise
  have new : ∀ t ∈ as, H t = none := fun t ht => I.hok.fresh (Nat.le_trans hS0 (Nat.le_of_lt (above t ht)))
  have newS : H S = none := I.hok.fresh hS0
  have atP := putT_at as kvs (upd H S (.lst (as.map V.ref))) hl nd
  have off : ∀ b, b ∉ as → b ≠ S → putT (upd H S (.lst (as.map V.ref))) as kvs b = H b := fun b h1 h2 => by rw [putT_off as kvs _ h1, upd_ne h2]
  have low : ∀ b o, s.heap.get? b = some o → b ∉ as ∧ b ≠ S := fun b o e => ⟨fun z => absurd (Heap.lt_size e) (Nat.not_lt.mpr (Nat.le_trans hS0 (Nat.le_of_lt (above b z)))), Nat.ne_of_lt (Nat.lt_of_lt_of_le (Heap.lt_size e) hS0)⟩
  have kp : ∀ b u, H b = some u → (putT (upd H S (.lst (as.map V.ref))) as kvs) b = some u := fun b u e => by
    rw [off b (fun z => by rw [new b z] at e; cases e) (fun z => by rw [z, newS] at e; cases e)]
    exact e
  have eS : putT (upd H S (.lst (as.map V.ref))) as kvs S = some (.lst (as.map V.ref)) := by rw [putT_off as kvs _ hSn, upd_same]
  refine ⟨putT (upd H S (.lst (as.map V.ref))) as kvs, kp, newS, new, hSn, eS, atP, ?_⟩
  refine I.call' (ch := []) rfl ⟨fun b o q _ _ _ => hk b o q, fun b o q _ _ _ => ⟨o.slots, hk b o q⟩, fun b o q n _ => ?_, fun b o q _ => ⟨o, hk b o q⟩, fun b xs q => kp b _ q, fun b o u q => kp b _ q, fun b ps q => ⟨#[], by rw [kp b _ q]; simp⟩⟩ (fun b u q => ?_) I.bare fun b z => by simp at z
  · obtain ⟨z1, z2⟩ := low b o q
    rw [off b z1 z2]
    exact n
  · by_cases hb : b ∈ as
    · obtain ⟨j, pk, e1, e2, e3⟩ := paired_ix atP hb
      rw [e3] at q
      cases q
      obtain ⟨pk', key, x, f1, f2, f4, f3⟩ := hG j b e1
      rw [f1] at e2
      cases e2
      exact ⟨by show 2 ≤ sizeLine; decide, [key, x], .cons f2 (.cons f4 .nil), ⟨_, f3, rfl, _, rfl⟩⟩
    · by_cases hb2 : b = S
      · rw [hb2] at q ⊢
        rw [eS] at q
        cases q
        refine ⟨by rw [List.length_map]; omega, acc.toList, c, by rw [hacc]; exact LiI.vals_refs as, ?_⟩
        rw [Array.toArray_toList]
        exact hS
      · rw [off b hb hb2] at q
        exact (I.hok b u q).stay (fun d v _ y => hk d v y) (fun d y => kp d _ y) fun d xs y => kp d _ y
/-- the items with their numbers from c on -/
def enK (c : Int) (xs : List V) : List (L2.Key × V) := (List.range xs.length).map fun i => (Sum.inl (c + (i : Nat)), xs.getD i .non)
def tListEn (K : PySem.W.Frag) (ta tk : TA) : TE := fun σ H Q => ta σ H fun vs H1 => tk σ H1 fun zs H2 => ∃ (a : Addr) (xs : List V) (c : Int), vs = [.ref a] ∧ zs = [.int c] ∧ -1000000 ≤ c ∧ c ≤ 1000000 ∧ SqL K H2 a xs ∧
  ∀ (H' : Hp) (p : Addr) (ts : List Addr), (∀ b o, H2 b = some o → H' b = some o) → H2 p = none → H' p = some (.lst (ts.map V.ref)) → Paired (fun (t : Addr) (q : L2.Key × V) => H' t = some (.tup [kV q.1, q.2])) ts (enK c xs) → Q (.ref p) H'
section
variable {X : Cx} {e : Expr} {ta tk : TA} {p p2 pos pos2 : Pos} {kws : List Keyword}
theorem pe_listEn (hc : X.calm = true) (ha : PA X [e] ta) (hk : PK X kws tk) (hg : Gl X "list") (hm : X.mg "list" = none) (hv : bootBuiltins "list" = some (.type "list")) (hg2 : Gl X "enumerate") (hm2 : X.mg "enumerate" = none)
    (hks : (backToKw pos2 (keywordEach kws X.env)).filterMap (·.1) = [Str.ofString "start"] := by rfl)
    (he : backTo pos2 (starEach [e] X.env) = (false, eval e X.env) :: backTo pos2 (starEach [] X.env) := by rfl) (hpl : (backTo pos2 (starEach [e] X.env)).any (·.1) = false := by rfl)
    (hall : (backToKw pos2 (keywordEach kws X.env)).all (·.1.isSome) = true := by rfl) (hnone : (backToKw pos2 (keywordEach kws X.env)).any (·.1.isNone) = false := by rfl)
    (hs : starEach [.Call (.Name "enumerate" p2) [e] kws pos2] X.env = (false, eval (.Call (.Name "enumerate" p2) [e] kws pos2) X.env) :: starEach [] X.env := by rfl) :
    PE X (.Call (.Name "list" p) [.Call (.Name "enumerate" p2) [e] kws pos2] [] pos) (tListEn X.K ta tk) := by
  refine ⟨fun pins s σ H Q I hq => ?_⟩
  refine wpAny_Call_Name_kw (ld_blt I hg hm hv ?_)
  refine PyProof.Rows.callWith_type1 ?_ hs rfl
  rw [hs]
  show wpAny _ _ (spliced ((false, eval (.Call (.Name "enumerate" p2) [e] kws pos2) X.env) :: backTo pos (starEach [] X.env))) _ _ s
  refine Calls.spliced_cons ?_
  refine wpAny_Call_Name_kw (ld_blt I hg2 hm2 boot_enumerate ?_)
  refine callWith_typeKw (thn (ha.run pos2 pins s σ H _ I hq) fun us s1 ⟨vs, H1, I1, r1, q1⟩ => thn (hk.run pos2 pins s1 σ H1 _ I1 q1) fun ws s2 ⟨zs, H2, I2, r2, q2⟩ => ?_) he hpl hall hnone
  rw [hks]
  obtain ⟨a, xs, c, rfl, rfl, c0, c1, hq', q⟩ := q2
  obtain rfl := Vals.ref1 r1
  obtain ⟨w1, rfl, t1, rfl⟩ := vals1 r2
  obtain ⟨its, rv, pl, hz⟩ := I2.list hq'
  refine PySem.enum_begins_start (begins_list a its.toArray) pl.isList (by omega) (by omega) fun h1 hen hit0 hsz hk1 => ?_
  refine Calls.spliced_nil ?_
  have hit : h1.IsListIter s2.heap.objs.size a 0 := ⟨_, hit0, rfl, rfl⟩
  have pl1 : h1.IsList a its.toArray := let ⟨o, ho, r⟩ := pl.isList; ⟨o, hk1 a o ho, r⟩
  have la : a < s2.heap.objs.size := let ⟨o, ho, _⟩ := pl.isList; Heap.lt_size ho
  refine en_call (s := { s2 with heap := h1 }) (c := c) (I2.ok.hd hc) (Nat.succ_ne_self _) (Nat.ne_of_lt la) (Nat.ne_of_lt (Nat.lt_succ_of_lt la)) (by rw [List.size_toArray, ← rv.length]; exact hz) hen hit pl1 fun h' tk' acc k as hkp hS' hl' hG hacc => ?_
  have hlen : as.length = (enK c xs).length := by
    rw [hl', List.size_toArray, ← rv.length]
    unfold enK
    rw [List.length_map, List.length_range]
  obtain ⟨H', k1, k2, k3, k4, k5, k6, J⟩ := laidS (X := X) (tk := tk') (kvs := enK c xs) (S := h1.objs.size) (as := as) I2 (by rw [← hlen, hl', List.size_toArray, ← rv.length]; exact hz) (by rw [hsz]; exact Nat.le_add_right _ _)
    (fun b o e => hkp b o (Nat.ne_of_lt (Nat.lt_succ_of_lt (Heap.lt_size e))) (Nat.ne_of_lt (Heap.lt_size e)) (hk1 b o e)) hS' hlen hG.rise hG.above (fun j b hj => by
      obtain ⟨t, x, e1, e2⟩ := hG.pairs j b hj
      have e1 : its[j]? = some x := by simpa using e1
      have hjn : j < xs.length := by
        have := (List.getElem?_eq_some_iff.mp e1).1
        rw [rv.length]
        exact this
      obtain ⟨u, hu, ru⟩ := rv.get (List.getElem?_eq_getElem hjn)
      rw [e1] at hu
      cases hu
      refine ⟨(Sum.inl (c + (j : Nat)), xs[j]), _, _, ?_, ⟨t, rfl⟩, ru, e2⟩
      unfold enK
      rw [List.getElem?_map, List.getElem?_range hjn, Option.map_some, List.getD_eq_getElem?_getD, List.getElem?_eq_getElem hjn]
      rfl) hacc
  exact ⟨.ref _, H', J, rfl, q H' _ as k1 k2 k5 k6⟩
end
end EnL
end S_Xd
section S_Xe
namespace EnL
open PySem PySem.Spec PyProof.Rows L2 Tl
/-- the tuple at a as it stands at each turn, each item in a new pair with its number, c the first -/
def IteS (K : PySem.W.Frag) (a : Addr) (c : Int) : It :=
  ⟨fun i H => ∃ (xs : List V) (x : V), SqT K H a xs ∧ xs[i]? = some x, fun i H v H' => ∃ T x, v = .ref T ∧ H T = none ∧ H' = upd H T (.tup [.int (c + (i : Nat)), x]) ∧ ∀ xs, SqT K H a xs → xs[i]? = some x, fun i H => ∃ xs : List V, SqT K H a xs ∧ xs.length ≤ i⟩
abbrev EnS (a e it : Addr) (c : Int) (i : Nat) (h : Heap) : Prop := (∃ old, IsEnum h e it (c + (i : Nat)) old) ∧ h.IsTupleIter it a i ∧ e ≠ it
theorem turn_enumS {P : Program} {w : World} {K : PySem.W.Frag} {elts : List Expr} {kk : Nat} {tpos : Pos} (a e it : Addr) (c : Int) : Turn P w K (.Tuple elts kk tpos) (IteS K a c) [e, it] e (EnS a e it c) where
  mem := List.mem_cons_self
  obj := fun i h st b hb => by
    obtain ⟨⟨old, he⟩, ⟨o, ho, hc, hd⟩, _⟩ := st
    rcases List.mem_cons.mp hb with z | z
    · rw [z]; exact ⟨_, he, fun v q => nomatch q⟩
    · rw [List.mem_singleton.mp z]; exact ⟨o, ho, fun v q => by rw [hd] at q; cases q⟩
  keep := fun i h h' st k => ⟨st.1.imp fun old he => k e (by simp) _ he, st.2.1.at fun o q => k it (by simp) o q, st.2.2⟩
  item := by
    intro X hP hw hK hc i pins s σ H E I hf st hg
    subst hP hw hK
    obtain ⟨⟨old, he⟩, hit, hne⟩ := st
    obtain ⟨xs, x, hq, hx⟩ := hg
    obtain ⟨its, rv, p, hz⟩ := I.tuple hq
    obtain ⟨u, hu, ru⟩ := rv.get hx
    have hai : a ≠ it := tup_ne p hit
    have hae : a ≠ e := tup_ne2 p he
    have le : e < s.heap.objs.size := Heap.lt_size he
    have li : it < s.heap.objs.size := by obtain ⟨_, q, _⟩ := hit; exact Heap.lt_size q
    have isz : i < its.toArray.size := by simpa using (List.getElem?_eq_some_iff.mp hu).1
    refine wpAny_pyNext_enum_itemC (Draws.tuple (show X.A.in1.handled = none from I.ok.hd hc) it a hai its.toArray) he ⟨hit, p⟩ isz hne (by simp [hne, Ne.symm hae]) fun y g tk hy ho hst hT hsz hk => ?_
    have ey : y = u := by
      rw [show its.toArray[i]? = its[i]? by simp, hu] at hy
      exact (Option.some.inj hy).symm
    subst ey
    refine ⟨_, rfl, wpAny_letOwnedTupleGo_enum (s := { s with heap := g, toks := tk + 1 }) ho fun g2 he' sb => ?_⟩
    have at2 : g2.get? s.heap.objs.size = some { cls := .type "tuple", data := .seq #[.int (c + (i : Nat)) tk, y] } := (sb.2 _ (Nat.ne_of_gt le)).trans hT
    have new : ObjOk X.prog X.w (upd H s.heap.objs.size (.tup [.int (c + (i : Nat)), x])) g2 s.heap.objs.size (.tup [.int (c + (i : Nat)), x]) :=
      ⟨by show 2 ≤ sizeLine; decide, [.int (c + (i : Nat)) tk, y], .cons ⟨_, rfl⟩ (.cons ru .nil), ⟨_, at2, rfl, _, rfl⟩⟩
    have old2 : ∀ b ob, b ∉ [e, it] → s.heap.get? b = some ob → g2.get? b = some ob := fun b ob hb q =>
      (sb.2 b fun z => hb (by simp [z])).trans (hk b ob (fun z => hb (by simp [z])) (fun z => hb (by simp [z])) q)
    have I1 : Inv X pins σ (upd H s.heap.objs.size (.tup [.int (c + (i : Nat)), x])) { s with heap := g2, toks := tk + 1 } := I.turnedNew (ch := [e, it]) old2 hf (Nat.le_refl _) new
    refine ⟨.ref s.heap.objs.size, _, I1, rfl, ⟨_, x, rfl, I.hok.fresh (Nat.le_refl _), rfl, fun ys hy => by rw [I.tuple_inj hy hq]; exact hx⟩, ⟨⟨y, ?_⟩, hst.1.at fun o q => (sb.2 it (Ne.symm hne)).trans q, hne⟩, fun b hb => ?_⟩
    · show IsEnum g2 e it (c + ((i + 1 : Nat) : Int)) y
      rw [show c + ((i + 1 : Nat) : Int) = c + (i : Int) + 1 by omega]
      exact he'
    · have lb : b < s.heap.objs.size := by
        rcases List.mem_cons.mp hb with z | z
        · rw [z]; exact le
        · rw [List.mem_singleton.mp z]; exact li
      rw [upd_ne (Nat.ne_of_lt lb)]
      exact (hf b hb).1
  done := by
    intro X hP hw hK hc i pins s σ H E I hf st hg
    subst hP hw hK
    obtain ⟨⟨old, he⟩, hit, hne⟩ := st
    obtain ⟨xs, hq, hx⟩ := hg
    obtain ⟨its, rv, p, hz⟩ := I.tuple hq
    obtain ⟨f0, f1, f2, f3, f4, f5⟩ := hf it (by simp)
    have hn := rv.length
    have hai : a ≠ it := tup_ne p hit
    have D : Draws X.prog X.w X.A.in1 it [it, a] i (fun _ _ => False) (fun j h => h.IsTupleIter it a j ∧ h.IsTuple a its.toArray ∧ j = i) :=
      { live := fun _ _ st => let ⟨o, ho, _⟩ := st.1; ⟨o, ho⟩
        frame := fun _ _ _ st hk => ⟨st.1.at fun o e => hk it (by simp) o e, st.2.1.at fun o e => hk a (by simp) o e, st.2.2⟩
        item := fun j s Q E hj st _ => absurd st.2.2 (Nat.ne_of_lt hj)
        done := fun s Q E st hE => RZ.nextOf_tuple_end (show X.A.in1.handled = none from I.ok.hd hc) st.1 st.2.1 (by simp; omega) hE }
    exact wpAny_pyNext_enum_endD D he ⟨hit, p, rfl⟩ fun g eb => ⟨rfl, I.turned (t' := s.toks) (fun b o hb q => eb b o hb q) f0 f1 f3 f4 f5⟩
  self := fun A i s Q E st h => let ⟨⟨_, he⟩, _⟩ := st; wpAny_pyIter_enum he h
def iEnumS (K : PySem.W.Frag) (ta tk : TA) : TI := fun σ H R => ta σ H fun vs H1 => tk σ H1 fun zs H2 => ∃ a xs c, vs = [.ref a] ∧ zs = [.int c] ∧ -1000000 ≤ c ∧ c ≤ 1000000 ∧ SqT K H2 a xs ∧ R (IteS K a c) H2
theorem pi_enumS {X : Cx} {e : Expr} {ta tk : TA} {p pos tpos : Pos} {elts : List Expr} {kk : Nat} {kws : List Keyword} (hg : Gl X "enumerate") (hm : X.mg "enumerate" = none) (ha : PA X [e] ta) (hk : PK X kws tk)
    (hks : (backToKw pos (keywordEach kws X.env)).filterMap (·.1) = [Str.ofString "start"] := by rfl)
    (he : backTo pos (starEach [e] X.env) = (false, eval e X.env) :: backTo pos (starEach [] X.env) := by rfl) (hpl : (backTo pos (starEach [e] X.env)).any (·.1) = false := by rfl)
    (hall : (backToKw pos (keywordEach kws X.env)).all (·.1.isSome) = true := by rfl) (hnone : (backToKw pos (keywordEach kws X.env)).any (·.1.isNone) = false := by rfl) :
    PI X (.Tuple elts kk tpos) (.Call (.Name "enumerate" p) [e] kws pos) (iEnumS X.K ta tk) := by
  refine ⟨fun pins s σ H R I h => ?_⟩
  refine wpAny_Call_Name_kw (ld_blt I hg hm boot_enumerate ?_)
  refine callWith_typeKw (thn (ha.run pos pins s σ H _ I h) fun us s1 ⟨vs, H1, I1, r1, q1⟩ => thn (hk.run pos pins s1 σ H1 _ I1 q1) fun ws s2 ⟨zs, H2, I2, r2, q2⟩ => ?_) he hpl hall hnone
  rw [hks]
  obtain ⟨a, xs, c, rfl, rfl, c0, c1, hq, q⟩ := q2
  obtain rfl := Vals.ref1 r1
  obtain ⟨w1, rfl, t1, rfl⟩ := vals1 r2
  obtain ⟨its, rv, p', hz⟩ := I2.tuple hq
  refine PySem.enum_begins_start (begins_tuple a its.toArray) p' (by omega) (by omega) fun g he hit hsz hk => wpAny_pyIter_enum he ?_
  have e0 : c + ((0 : Nat) : Int) = c := by omega
  refine ⟨s2.heap.objs.size + 1, [s2.heap.objs.size + 1, s2.heap.objs.size], _, _, H2, rfl, I2.kept (t' := s2.toks) hk, turn_enumS a (s2.heap.objs.size + 1) s2.heap.objs.size c, ⟨⟨.none, by rw [e0]; exact he⟩, ⟨_, hit, rfl, rfl⟩, Nat.succ_ne_self _⟩, fun b hb => ?_, q⟩
  have le : s2.heap.objs.size ≤ b := by
    rcases List.mem_cons.mp hb with z | z
    · rw [z]; exact Nat.le_add_right _ _
    · rw [List.mem_singleton.mp z]; exact Nat.le_refl _
  exact I2.fpOk le (I2.hok.fresh le)
theorem walk_enumS {K : PySem.W.Frag} {a : Addr} {c : Int} {xs : List V} : Walk (IteS K a c) xs.length (fun H => SqT K H a xs) (YPair (fun i => some (.int (c + (i : Nat)))) (fun i => xs[i]?)) := by
  refine ⟨fun i _ hi q => ⟨xs, xs[i], q, by simp [hi]⟩, fun _ q => ⟨xs, q, Nat.le_refl _⟩, fun i H v H' _ q y => ?_⟩
  obtain ⟨T, x, h1, h2, h3, h4⟩ := y
  exact ⟨T, .int (c + (i : Nat)), x, h1, h2, h3, rfl, h4 xs q⟩
theorem ei_enumS {K : PySem.W.Frag} {σ : L2.St} {H : Hp} {a : Addr} {xs : List V} {ta tk : TA} {c : Int} (h : Evl.EvA ta σ H [.ref a]) (h2 : Evl.EvA tk σ H [.int c]) (hx : SqT K H a xs) (c0 : -1000000 ≤ c) (c1 : c ≤ 1000000) : EvI (iEnumS K ta tk) σ H xs.length (YPair (fun i => some (.int (c + (i : Nat)))) (fun i => xs[i]?)) := fun H1 e R k =>
  h H1 e _ fun H2 e2 => h2 H2 (e.trans e2) _ fun H3 e3 => ⟨a, xs, c, rfl, rfl, c0, c1, Evl.ex_t ((e.trans e2).trans e3) hx, k _ _ H3 (e2.trans e3) walk_enumS fun A ab _ => Evl.ex_t ab hx⟩
theorem aims_enumS {K : PySem.W.Frag} {xs : List V} {j1 j2 : Nat} {c : Int} : Aims (gTup K 2 (gCons (gName j1) (gCons (gName j2) gNil))) xs.length (YPair (fun i => some (.int (c + (i : Nat)))) (fun i => xs[i]?))
    (fun i σ => (σ.set j1 (some (.int (c + (i : Nat))))).set j2 (some (xs.getD i .non))) := fun i σ H v H' hi y => by
  obtain ⟨T, x, y, rfl, hT, rfl, h1, h2⟩ := y
  cases h1
  have h3 : xs[i]? = some y := h2
  obtain rfl : xs.getD i .non = y := by rw [List.getD_eq_getElem?_getD, h3]; rfl
  exact ⟨Evl.Ex.new hT, fun Q q => ⟨T, _, rfl, Evl.st_of upd_same, rfl, _, _, rfl, _, _, rfl, rfl, q⟩⟩
/-! ### a call by keywords alone, which may raise -/
def tCallSN (m : Nat) (sp : Sp) (gV : List V → List V → List V) (E : L2.St → XK) (tk : TA) : TE := fun σ H Q => tk σ H fun zs H2 => zs.length = m ∧ sp (gV [] zs) H2 Q (E σ)
theorem run_fnSN {X : Cx} {CX : CXT} {k n : Nat} {f : Addr} {fd : FuncData} {ps ks : List Str} {sp : Sp} {E : L2.St → XK} {g : List Value → List Value → List Value} {gV : List V → List V → List V} {pins : List (Addr × Obj)} {σ : L2.St} {H : Hp} {s : Shared} {Q : VK} {us ws : List Value} {vs zs : List V} (F : FnOk X.prog X.w X.K X.mg X.base CX k f fd ps sp) (hr : Room k X.A) (hb : KBn X.K fd ps n ks g gV) (hx : PassesAt CX X σ (E σ))
    (I : Inv X pins σ H s) (r : Vals vs us) (rz : Vals zs ws) (l1 : vs.length = n) (l2 : zs.length = ks.length) (h : sp (gV vs zs) H Q (E σ)) : wpAny (model X.prog X.w) X.A (call (.ref f) us (ks.zip ws)) (EP X pins σ Q) X.xe s := by
  have r2 := hb.rel r rz
  refine wpAny_call (codeAny_mono (F.run X.A X.stack s H ⟨us, ks.zip ws⟩ (g us ws) (gV vs zs) Q (E σ) hr I.env0 (hb.to s us ws I.kIn (r.length.symm.trans l1) (rz.length.symm.trans l2)) r2 h) fun r s' hq => ?_)
  cases r with
  | error e => exact hx pins H s e s' I hq
  | ok fl =>
    cases fl with
    | ret u => exact I.after hq
    | next => exact False.elim hq
    | brk => exact False.elim hq
    | cont => exact False.elim hq
theorem pe_callSN {X : Cx} {CX : CXT} {k : Nat} {f : Addr} {fd : FuncData} {ps ks : List Str} {sp : Sp} {E : L2.St → XK} {x : Str} {p pos : Pos} {kws : List Keyword} {tk : TA} {g : List Value → List Value → List Value} {gV : List V → List V → List V}
    (F : FnOk X.prog X.w X.K X.mg X.base CX k f fd ps sp) (hr : Room k X.A) (hg : Gl X x) (hm : X.mg x = some (.ref f)) (hk : PySem.W.keepIn X.K (.ref f) = true) (hb : KBn X.K fd ps 0 ks g gV) (hx : ∀ σ, PassesAt CX X σ (E σ))
    (hkw : PK X kws tk) (hall : (backToKw pos (keywordEach kws X.env)).all (·.1.isSome) = true := by rfl) (hks : (backToKw pos (keywordEach kws X.env)).filterMap (·.1) = ks := by rfl) (hdb : (x == ("__debug__" : Str)) = false := by decide)
    (hpl : ((backTo pos (starEach [] X.env)).any (·.1) || (backToKw pos (keywordEach kws X.env)).any (·.1.isNone)) = false := by rfl) :
    PE X (.Call (.Name x p) [] kws pos) (tCallSN ks.length sp gV E tk) := by
  constructor
  intro pins s σ H Q I h
  refine wpAny_Call_Name_kw (ld_glob I hg hm (PySem.W.callWith_KW0 (h₀ := X.base) I.ok.mod.kin hk hall (thn (hkw.run pos pins s σ H _ I h) fun ws s2 hv => ?_) hpl) hdb)
  obtain ⟨zs, H2, I2, rz, l2, q2⟩ := hv
  refine ⟨I2.kIn, ?_⟩
  rw [hks]
  exact run_fnSN (us := []) (vs := []) F hr hb (hx σ) I2 .nil rz rfl l2 q2
/-! ### str of an instance that has its own -/
def rStrIns (C : Addr) (sp : Sp) (E : XK) : List V → Hp → VK → Prop := fun xs H Q => ∃ (a : Addr) (dx : Addr) (fs : List (Str × V)), xs = [.ref a] ∧ H a = some (.ins C dx fs) ∧ sp [.ref a] H (fun v H' => (∃ z, v = .str z) ∧ Q v H') E
theorem call_strIns {X : Cx} {CX : CXT} {k : Nat} {C f : Addr} {fd : FuncData} {ps : List Str} {sp : Sp} {E : XK} (F : FnOk X.prog X.w X.K X.mg X.base CX k f fd ps sp) (hr : Room (k + 2) X.A)
    (hs : PySem.W.findIn X.K (.ref C) "__str__" = some (some (.ref f))) (hf : PySem.W.isFn X.K (.ref f) = true) (hb : Binds X.K fd ps []) (hx : Passes CX X E) : CallR X (.type "str") (rStrIns C sp E) := by
  intro pins s σ H xs us Q I r h
  obtain ⟨a, dx, fs, rfl, ha, hsp⟩ := h
  obtain rfl := Vals.ref1 r
  obtain ⟨mA, J, _⟩ := ins_get I.hok ha
  obtain ⟨od, J, _⟩ := J.look
  refine PySem.W.kso_call (A := X.A) (by have := hr.un; show X.A.units + 1 + 1 < _; omega) I.kIn J hs hf ?_
  have e0 : Env0 X.prog X.w X.K X.mg X.base X.A.in1.in1 X.stack s H := by
    have e := I.env0
    exact ⟨e.frames, e.mod, e.bs, e.bsz, e.funs, e.frf, e.hok, e.bare⟩
  have hl := F.len _ _ _ _ hsp
  have r2 : Vals [V.ref a] [Value.ref a] := .cons rfl .nil
  refine wpAny_call (codeAny_mono (F.run X.A.in1.in1 X.stack s H ⟨[.ref a], []⟩ [.ref a] [.ref a] _ E (Room.in1 (Room.in1 hr)) e0 (by
    have := hb s [.ref a] I.kIn (by simpa using hl)
    simpa using this) r2 hsp) fun r s' hq => ?_)
  cases r with
  | error e => exact hx pins σ H s e s' I hq
  | ok fl =>
    cases fl with
    | ret w =>
      obtain ⟨z, H', I', rz, ⟨x, ez⟩, q⟩ := I.after hq
      subst ez
      obtain ⟨t, rfl⟩ := rz
      exact ⟨.str x, H', I', ⟨t, rfl⟩, q⟩
    | next => exact False.elim hq
    | brk => exact False.elim hq
    | cont => exact False.elim hq
end EnL
end S_Xe
section S_Qv
namespace P04
open PySem PySem.Spec PyProof.Rows L2 Tl Hk LamX EnL
abbrev sWebS : Stmt := inClass sWeb 2
abbrev teS (j : Nat) : TE := tCB (fun xs H Q => ∃ i, xs = [V.int i] ∧ i.natAbs.log2 < 1920 ∧ Q (.str (toString i)) H) (tCons (tVar j) tNil)
theorem nat_len : ∀ n : Nat, n < 1001 → (toString (n : Int) : Str).length ≤ 10 := by decide +kernel
theorem int_len {i : Int} (h0 : 0 ≤ i) (h1 : i ≤ 1000) : (toString i : Str).length ≤ 10 := by
  have := nat_len i.toNat (by omega)
  rwa [show ((i.toNat : Nat) : Int) = i by omega] at this
theorem int_log {i : Int} (h0 : 0 ≤ i) (h1 : i ≤ 1000) : i.natAbs.log2 < 1920 := by
  have h : i.natAbs < 2 ^ 11 := by
    have : (2:Nat) ^ 11 = 2048 := rfl
    omega
  by_cases z : i.natAbs = 0
  · rw [z]; decide
  · have := (Nat.log2_lt z).mpr h
    omega
theorem sum_le {m : Nat} : ∀ {ys : List Str}, (∀ y ∈ ys, y.length ≤ m) → (ys.map (·.length)).sum ≤ ys.length * m
  | [], _ => by simp
  | y :: r, h => by
    have := sum_le (ys := r) fun z hz => h z (List.mem_cons_of_mem _ hz)
    have h0 := h y List.mem_cons_self
    simp only [List.map_cons, List.sum_cons, List.length_cons, Nat.add_mul]
    omega
theorem join_le (a : Str) (ys : List Str) {m : Nat} (h : ∀ y ∈ ys, y.length ≤ m) : (Txt.join a ys).length ≤ ys.length * m + ys.length * a.length := by
  have := join_len a ys
  have := sum_le h
  omega
theorem ev_joinI {K : PySem.W.Frag} {σ : L2.St} {H : Hp} {ta : TE} {ys : List Str} {m : Nat} (h : Evl.EvL ta σ H (ys.map V.str)) (hm : ∀ y ∈ ys, y.length ≤ m) {a : Str} (hz : ys.length * m + ys.length * a.length ≤ 16777216) :
    Evl.Ev (tBM K "str" (fun x xs H Q => ∃ a p, ∃ ys : List Str, x = .str a ∧ xs = [.ref p] ∧ (SqL K H p (ys.map V.str) ∨ SqT K H p (ys.map V.str)) ∧ (ys.map (·.length)).sum + ys.length * a.length ≤ 16777216 ∧ Q (.str (Txt.join a ys)) H) (tC (.str a)) (tCons ta tNil)) σ H (.str (Txt.join a ys)) := fun H1 e Q q => by
  have hs := sum_le hm
  exact ⟨rfl, h H1 e _ fun p H2 hp e2 h2 => ⟨a, p, ys, rfl, rfl, .inl (Evl.sq_of h2), by omega, q H2 e2⟩⟩
/-- the text of a turn -/
def ttx (ns : List Int) : Str := if ns.isEmpty = true then "-" else Txt.join " " (ns.map fun i => (toString i : Str))
theorem ttx_len {ns : List Int} (hb : ∀ x ∈ ns, 0 ≤ x ∧ x ≤ 1000) (hl : ns.length ≤ 1000) : (ttx ns).length ≤ 11000 := by
  have hm : ∀ y ∈ ns.map (fun i => (toString i : Str)), y.length ≤ 10 := fun y hy => by
    obtain ⟨i, hi, rfl⟩ := List.mem_map.mp hy
    exact int_len (hb i hi).1 (hb i hi).2
  have hj := join_le " " _ hm
  rw [List.length_map] at hj
  have h1 : ((" " : Str)).length = 1 := rfl
  rw [h1] at hj
  unfold ttx
  split
  · decide
  · omega
def spTurnText : Sp := fun vs H Q _ => ∃ (a : Addr) (ns : List Int), vs = [.ref a] ∧ H a = some (.tup (ns.map V.int)) ∧ ns.length ≤ 1000 ∧ (∀ x ∈ ns, 0 ≤ x ∧ x ≤ 1000) ∧ ∀ H1, Evl.Ex H H1 → Q (.str (ttx ns)) H1
theorem spv_turnText {H : Hp} {a : Addr} {ns : List Int} (h : H a = some (.tup (ns.map V.int))) (hl : ns.length ≤ 1000) (hb : ∀ x ∈ ns, 0 ≤ x ∧ x ≤ 1000) : Evl.SpV spTurnText [.ref a] H (.str (ttx ns)) := fun H1 e Q q E => ⟨a, ns, rfl, e _ _ h, hl, hb, q⟩
def spWebS (C : Addr) : Sp := fun vs H Q _ => ∃ (x : Addr) (ts : List (List Int)), vs = [.ref x] ∧ WebAt C H x ts ∧ OkT ts ∧ ∀ H1, Evl.Ex H H1 → Q (.str (Txt.join " / " (ts.map ttx))) H1
theorem scWebS : FnScope ["self", "turn"] ["self"] (defScope sWebS) := ⟨rfl, rfl, rfl, by decide +kernel, rfl, by decide +kernel, by decide +kernel⟩
theorem scTurnText : FnScope ["turn", "place"] ["turn"] (defScope sTurnText) := ⟨rfl, rfl, rfl, by decide +kernel, rfl, by decide +kernel, by decide +kernel⟩
section
variable {P : Program} {w : World} {K : PySem.W.Frag} {mg : Str → Option Value} {base : Heap}
theorem ok_turnText {f : Addr} {fd : FuncData} {k : Nat} (F : Fun K "_turn_text" "_turn_text" sTurnText f fd) (mstr : mg "str" = none) : FnOk P w K mg base CX0 (k + 1) f fd ["turn"] spTurnText := by
  refine F.ok scTurnText (fun vs H Q E h => ?_) (fun cdv A outer s H vs Q E hr h => ?_)
  · obtain ⟨a, ns, rfl, _⟩ := h
    rfl
  · obtain ⟨a, ns, rfl, ha, hl, hb, q⟩ := h
    have nd := scTurnText.nd
    refine ⟨_, pss_one (ps_ret (pe_ifExp (pt_truth (pv 0) (by intro _; rfl))
      (pe_bm PySem.F.plainAttrs_str PySem.F.slot_str_join PySem.F.type_str_join mt_join pe_str (pa_cons
        (pe_lc (own := [("place", 1)]) (g := gName 1) (tt := tYes) (te := teS 1) rfl nd (pi_tup (pv 0)) (blkOk_by (N := ["turn", "place"]) (sc := defScope sTurnText) (by decide +kernel)) (fun _ _ _ _ _ => pg_name (i := 1) nd rfl (Or.inl rfl)) (fun _ _ _ _ _ => pts_nil)
          (fun _ _ _ _ _ => pe_callTy call_str_int (by rfl) mstr (by decide +kernel) (pa_cons (pv 1) pa_nil))) pa_nil)) pe_str)), ?_⟩
    have e0 : (ns.map V.int).length = ns.length := List.length_map ..
    refine ⟨_, rfl, _, .inr (.inl ⟨_, Evl.st_of ha, rfl⟩), ?_⟩
    by_cases hn : (ns.map V.int).isEmpty = true
    · rw [hn]
      have := q H (Evl.Ex.refl _)
      unfold ttx at this
      rw [if_pos (by simpa using hn)] at this
      exact this
    · rw [Bool.not_eq_true] at hn
      rw [hn]
      have hm : ∀ y ∈ ns.map (fun i => (toString i : Str)), y.length ≤ 10 := fun y hy => by
        obtain ⟨i, hi, rfl⟩ := List.mem_map.mp hy
        exact int_len (hb i hi).1 (hb i hi).2
      have h1 : ((" " : Str)).length = 1 := rfl
      refine ev_joinI (K := K) (σ := start ["turn", "place"] [.ref a]) (ys := ns.map (fun i => (toString i : Str))) ?_ hm (by rw [List.length_map, h1]; omega) H (Evl.Ex.refl _) _ fun H2 e2 => by
        have := q H2 e2
        unfold ttx at this
        rw [if_neg (by simpa using hn)] at this
        exact this
      have hh := el_lcT (K := K) (te := teS 1) (t := tYes) (σ := start ["turn", "place"] [.ref a]) (H := H) (j := 1) (vs := [1]) (fun _ => true) (fun i => V.str (toString (ns.getD i 0))) (Evl.ev_var (i := 0) rfl) (Evl.st_of ha) (by omega) (fun _ => rfl) (fun _ _ _ _ _ => et_yes)
        fun i v H2 e2 hv _ => by
          have hi : i < ns.length := by rw [← e0]; exact (List.getElem?_eq_some_iff.mp hv).1
          have ev : v = .int (ns.getD i 0) := by
            have := ints_getD hi
            rw [List.getD_eq_getElem?_getD, hv] at this
            exact this
          subst ev
          have hd := hb _ (List.getElem_mem hi)
          have eg : ns.getD i 0 = ns[i] := by rw [List.getD_eq_getElem?_getD, List.getElem?_eq_getElem hi]; rfl
          exact Evl.ev_cb (Evl.ea_cons (Evl.ev_var rfl) Evl.ea_nil) fun H3 e3 Q q => ⟨_, rfl, by rw [eg]; exact int_log hd.1 hd.2, q H3 (Evl.Ex.refl _)⟩
      rw [e0, given_all ns 0 (fun i => V.str (toString i))] at hh
      rw [List.map_map]
      exact hh
theorem ok_webS {C f fT : Addr} {fd fdT : FuncData} {k : Nat} (F : Fun K "__str__" "Web.__str__" sWebS f fd) (T : TWeb K mg C)
    (FT : Fun K "_turn_text" "_turn_text" sTurnText fT fdT) (GT : FnOk P w K mg base CX0 k fT fdT ["turn"] spTurnText) (bT : Binds K fdT ["turn"] []) (gT : mg "_turn_text" = some (.ref fT)) : FnOk P w K mg base CX0 (k + 1) f fd ["self"] (spWebS C) := by
  refine F.ok scWebS (fun vs H Q E h => ?_) (fun cdv A outer s H vs Q E hr h => ?_)
  · obtain ⟨x, ts, rfl, _⟩ := h
    rfl
  · obtain ⟨x, ts, rfl, hx, hT, q⟩ := h
    have nd := scWebS.nd
    refine ⟨_, pss_one (ps_ret (pe_bm PySem.F.plainAttrs_str PySem.F.slot_str_join PySem.F.type_str_join mt_join pe_str (pa_cons
        (pe_lc (own := [("turn", 1)]) (g := gName 1) (tt := tYes) rfl nd (pi_tup (pe_fld (pv 0) rfl)) (blkOk_by (N := ["self", "turn"]) (sc := defScope sWebS) (by decide +kernel)) (fun _ _ _ _ _ => pg_name (i := 1) nd rfl (Or.inl rfl)) (fun _ _ _ _ _ => pts_nil)
          (fun _ _ _ _ _ => pe_call GT hr (by rfl) gT FT.kp bT .nil pass0 (pa_cons (pv 1) pa_nil))) pa_nil))), ?_⟩
    obtain ⟨dx, t, ti, a1, ⟨as, hl, ha, hrow⟩, a3⟩ := hx
    have p2 := hT.most
    have hmap : (as.map V.ref).length = ts.length := by rw [List.length_map, ha]
    have row : ∀ i, i < ts.length → ∃ a ns, as[i]? = some a ∧ ts[i]? = some ns ∧ H a = some (.tup (ns.map V.int)) := fun i hi => by
      obtain ⟨a, ns, h1, h2⟩ := both_at ha (show i < as.length by omega)
      exact ⟨a, ns, h1, h2, hrow i a ns h1 h2⟩
    have fine : ∀ ns ∈ ts, ns.length ≤ 1000 ∧ ∀ x ∈ ns, 0 ≤ x ∧ x ≤ 1000 := fun ns hns => by
      obtain ⟨i, hi, rfl⟩ := List.mem_iff_getElem.mp hns
      have hg := List.getElem?_eq_getElem hi
      obtain ⟨t1, t2, t3⟩ := hT.pl i _ hg
      refine ⟨by have := hT.short hg; omega, fun x hx => ?_⟩
      have := t2 x hx
      omega
    have hm : ∀ y ∈ ts.map ttx, y.length ≤ 11000 := fun y hy => by
      obtain ⟨ns, hns, rfl⟩ := List.mem_map.mp hy
      exact ttx_len (fine ns hns).2 (fine ns hns).1
    refine Evl.s_ret (ev_joinI (K := K) (ys := ts.map ttx) ?_ hm (by rw [List.length_map]; show ts.length * 11000 + ts.length * 3 ≤ 16777216; omega)) q
    have hh := el_lcT (K := K) (te := tCall spTurnText [] E0 (tCons (tVar 1) tNil)) (t := tYes) (σ := start ["self", "turn"] [.ref x]) (H := H) (j := 1) (vs := [1]) (fun _ => true) (fun i => V.str (ttx (ts.getD i []))) (ev_fld (Evl.ev_var (i := 0) rfl) a1 T.cl T.nT (wf_t _ _ _)) (Evl.st_of hl) (by omega) (fun _ => rfl) (fun _ _ _ _ _ => et_yes)
      fun i v H2 e2 hv _ => by
        have hi : i < ts.length := by rw [← hmap]; exact (List.getElem?_eq_some_iff.mp hv).1
        obtain ⟨a, ns, h1, h2, h3⟩ := row i hi
        have ev : v = .ref a := by
          rw [List.getElem?_map, h1] at hv
          exact (Option.some.inj hv).symm
        subst ev
        have ed : ts.getD i [] = ns := by rw [List.getD_eq_getElem?_getD, h2]; rfl
        rw [ed]
        have hf := fine ns (List.mem_of_getElem? h2)
        exact Evl.ev_call (Evl.ea_cons (Evl.ev_var rfl) Evl.ea_nil) (spv_turnText (e2 _ _ h3) hf.1 hf.2)
    rw [hmap, given_all ts [] (fun ns => V.str (ttx ns))] at hh
    rw [List.map_map]
    exact hh
end
end P04
end S_Qv
section S_Qw
namespace Hk
open PySem PySem.Spec PyProof.Rows L2 TL NumText
/-! ### texts of numbers -/
/-- all signs below 128 -/
def Asc (s : Str) : Prop := ∀ c ∈ tl s, c < 128
def dS (n : Nat) : Str := Str.ofString (toString ((n : Nat) : Int))
theorem tl_dS (n : Nat) : tl (dS n) = TL.numL n := TL.tl_num n
theorem digitsVal_snoc (ds : List Nat) (d : Nat) : digitsVal (ds ++ [d]) = digitsVal ds * 10 + (d - 48) := by
  unfold digitsVal
  rw [List.foldl_append]
  rfl
theorem val_pos : ∀ (ds : List Nat) (a : Nat), 1 ≤ a → 1 ≤ ds.foldl (fun acc c => acc * 10 + (c - 48)) a
  | [], a, h => h
  | d :: ds, a, h => val_pos ds _ (show 1 ≤ a * 10 + (d - 48) by omega)
/-- digits without a leading 0 are those of their number -/
theorem numL_back : ∀ (k : Nat) (cs : List Nat), cs.length = k → AllDigits cs → cs ≠ [] → cs[0]? ≠ some 48 → TL.numL (digitsVal cs) = cs := by
  intro k
  induction k with
  | zero => intro cs h _ hn; exact absurd (List.length_eq_zero_iff.mp h) hn
  | succ k ih =>
    intro cs hl hd hn h0
    obtain ⟨ds, d, rfl⟩ : ∃ ds d, cs = ds ++ [d] := ⟨cs.dropLast, cs.getLast hn, (List.dropLast_concat_getLast hn).symm⟩
    have hd1 : 48 ≤ d ∧ d ≤ 57 := hd d (by simp)
    rw [digitsVal_snoc]
    by_cases z : ds = []
    · subst z
      rw [TL.numL_lt (by show 0 * 10 + (d - 48) < 10; omega)]
      show [48 + (0 * 10 + (d - 48))] = [d]
      rw [show 48 + (0 * 10 + (d - 48)) = d by omega]
    · have hl2 : ds.length = k := by simpa using hl
      have hdd : AllDigits ds := fun c hc => hd c (by simp [hc])
      have h02 : ds[0]? ≠ some 48 := by
        cases ds with
        | nil => exact absurd rfl z
        | cons x r => simpa using h0
      have hp : 1 ≤ digitsVal ds := by
        cases ds with
        | nil => exact absurd rfl z
        | cons x r =>
          have hx : 48 ≤ x ∧ x ≤ 57 := hdd x (by simp)
          have hx2 : x ≠ 48 := fun e => h02 (by rw [e]; rfl)
          exact val_pos r _ (show 1 ≤ 0 * 10 + (x - 48) by omega)
      rw [TL.numL_step (by omega)]
      rw [show (digitsVal ds * 10 + (d - 48)) / 10 = digitsVal ds by omega, show (digitsVal ds * 10 + (d - 48)) % 10 = d - 48 by omega, ih ds hl2 hdd z h02]
      rw [show 48 + (d - 48) = d by omega]
theorem dS_back {s : Str} (hd : AllDigits (tl s)) (hn : tl s ≠ []) (h0 : (tl s)[0]? ≠ some 48) : s = dS (digitsVal (tl s)) := ext_tl (by rw [tl_dS, numL_back _ _ rfl hd hn h0])
theorem dS_inj {m n : Nat} (h : dS m = dS n) : m = n := TL.numL_inj (by rw [← tl_dS, ← tl_dS, h])
theorem isDigit_asc : ∀ c, c < 128 → Unicode.isDigit c = (decide (48 ≤ c) && decide (c ≤ 57)) := by decide +kernel
/-- the sign - taken away -/
def cut0 (s : Str) : Str := Txt.removeprefix s "-"
theorem tl_minus : tl ("-" : Str) = [45] := by decide +kernel
theorem sub_minus (s : Str) : Builtin.Str.subAt s "-" 0 = decide ((tl s)[0]? = some 45) := by
  rw [StrLaws.subAt_eq, List.drop_zero]
  show ((tl s).take ("-" : Str).length == tl ("-" : Str)) = _
  rw [tl_minus, show ("-" : Str).length = 1 by decide]
  cases h : tl s with
  | nil => rfl
  | cons c r =>
    show ([c] == [45]) = decide (some c = some 45)
    by_cases z : c = 45
    · subst z; rfl
    · rw [decide_eq_false (fun e => z (Option.some.inj e))]
      simp [z]
theorem cut0_not {s : Str} (h : (tl s)[0]? ≠ some 45) : cut0 s = s := by
  unfold cut0 Txt.removeprefix
  rw [sub_minus, decide_eq_false h]
  rfl
theorem cut0_tl {s : Str} {r : List Nat} (h : tl s = 45 :: r) : tl (cut0 s) = r := by
  unfold cut0 Txt.removeprefix
  rw [sub_minus, h]
  have hl : s.length = r.length + 1 := by rw [len_tl, h]; rfl
  show tl (if (s.length - ("-" : Str).length == s.length) = true then s else Builtin.Str.strSub s ("-" : Str).length s.length) = r
  rw [show ("-" : Str).length = 1 by decide, if_neg (by rw [beq_iff_eq]; omega), tl_strSub_end, h]
  rfl
theorem cut0_len (s : Str) : (cut0 s).length ≤ s.length := by
  cases h : tl s with
  | nil => rw [cut0_not (by rw [h]; simp)] <;> exact Nat.le_refl _
  | cons c r =>
    by_cases z : c = 45
    · subst z
      rw [len_tl, len_tl, cut0_tl h, h]
      exact Nat.le_succ _
    · rw [cut0_not (by rw [h]; simpa using z)]
      exact Nat.le_refl _
theorem start0 (s : Str) : Txt.startswith s "0" = decide ((tl s)[0]? = some 48) := by
  unfold Txt.startswith
  rw [StrLaws.subAt_eq, List.drop_zero]
  show (decide (0 + ("0" : Str).length ≤ s.length) && ((tl s).take ("0" : Str).length == tl ("0" : Str))) = _
  rw [show tl ("0" : Str) = [48] by decide +kernel, show ("0" : Str).length = 1 by decide, len_tl]
  cases h : tl s with
  | nil => rfl
  | cons c r =>
    show (decide (0 + 1 ≤ r.length + 1) && ([c] == [48])) = decide (some c = some 48)
    rw [decide_eq_true (by omega), Bool.true_and]
    by_cases z : c = 48
    · subst z; rfl
    · rw [decide_eq_false (fun e => z (Option.some.inj e))]
      simp [z]
theorem isdigit_of {s : Str} (ha : Asc s) (h : Txt.isdigit s = true) : AllDigits (tl s) ∧ tl s ≠ [] := by
  unfold Txt.isdigit at h
  obtain ⟨h1, h2⟩ := Bool.and_eq_true_iff.mp h
  have h1 := of_decide_eq_true h1
  rw [len_tl] at h1
  refine ⟨fun c hc => ?_, fun e => by rw [e] at h1; simp at h1⟩
  have h3 := (Array.all_eq_true'.mp h2) c (Array.mem_toList_iff.mp hc)
  rw [isDigit_asc c (ha c hc), Bool.and_eq_true_iff] at h3
  exact ⟨of_decide_eq_true h3.1, of_decide_eq_true h3.2⟩
def badP (s : Str) : Bool := !Txt.isascii (cut0 s) || (!Txt.isdigit (cut0 s) || decide (140 < (cut0 s).length))
def zeroP (s : Str) : Bool := Txt.startswith (cut0 s) "0" && !decide (s = "0")
/-- what the program reads of an item -/
def num (lo hi : Int) (s : Str) : Option Int := if badP s then none else if zeroP s then none else match PySem.intText? s with
  | some i => if (decide (lo ≤ i) && decide (i ≤ hi)) = true then some i else none
  | none => none
theorem asc_cut {s : Str} (h : Asc s) : Asc (cut0 s) := fun c hc => by
  cases e : tl s with
  | nil => rw [cut0_not (by rw [e]; simp)] at hc; exact h c hc
  | cons x r =>
    by_cases z : x = 45
    · subst z
      rw [cut0_tl e] at hc
      exact h c (by rw [e]; exact List.mem_cons_of_mem _ hc)
    · rw [cut0_not (by rw [e]; simpa using z)] at hc
      exact h c hc
/-- not bad: digits, of which int knows a number -/
theorem int_of {s : Str} (ha : Asc s) (h : badP s = false) : (∃ r, tl s = 45 :: r ∧ AllDigits r ∧ r ≠ [] ∧ PySem.intText? s = some (-(digitsVal r : Nat) : Int)) ∨ (AllDigits (tl s) ∧ tl s ≠ [] ∧ cut0 s = s ∧ PySem.intText? s = some ((digitsVal (tl s) : Nat) : Int)) := by
  unfold badP at h
  rw [Bool.or_eq_false_iff, Bool.or_eq_false_iff] at h
  obtain ⟨_, h2, h3⟩ := h
  obtain ⟨d1, d2⟩ := isdigit_of (asc_cut ha) (by simpa using h2)
  have h3 := of_decide_eq_false h3
  cases e : tl s with
  | nil =>
    rw [cut0_not (by rw [e]; simp)] at d2
    exact absurd e d2
  | cons x r =>
    by_cases z : x = 45
    · subst z
      rw [cut0_tl e] at d1 d2
      have hl : s.length ≤ 4300 := by
        rw [len_tl, e]
        rw [len_tl, cut0_tl e] at h3
        simp only [List.length_cons]
        omega
      exact .inl ⟨r, rfl, d1, d2, PySem.intText_neg e d1 d2 hl⟩
    · have hc := cut0_not (s := s) (by rw [e]; simpa using z)
      rw [hc] at d1 d2 h3
      refine .inr ⟨e ▸ d1, e ▸ d2, hc, ?_⟩
      rw [← e]
      exact PySem.intText_digits d1 d2 (by omega)
theorem num_some {s : Str} {lo hi i : Int} (ha : Asc s) (hlo : 1 ≤ lo) (h : num lo hi s = some i) : ∃ n : Nat, i = (n : Int) ∧ s = dS n ∧ lo ≤ i ∧ i ≤ hi := by
  unfold num at h
  by_cases b : badP s = true
  · rw [if_pos b] at h; cases h
  rw [if_neg b] at h
  by_cases z : zeroP s = true
  · rw [if_pos z] at h; cases h
  rw [if_neg z] at h
  rw [Bool.not_eq_true] at b z
  rcases int_of ha b with ⟨r, e, d1, d2, hi'⟩ | ⟨d1, d2, hc, hi'⟩
  · rw [hi'] at h
    dsimp only at h
    split at h
    · rename_i hr
      have := of_decide_eq_true (Bool.and_eq_true_iff.mp hr).1
      omega
    · cases h
  · rw [hi'] at h
    dsimp only at h
    split at h
    · rename_i hr
      obtain ⟨h1, h2⟩ := Bool.and_eq_true_iff.mp hr
      have h1 := of_decide_eq_true h1
      have h2 := of_decide_eq_true h2
      cases h
      refine ⟨_, rfl, ?_, h1, h2⟩
      refine dS_back d1 d2 fun h0 => ?_
      unfold zeroP at z
      rw [hc, start0, decide_eq_true h0, Bool.true_and, Bool.not_eq_false', decide_eq_true_eq] at z
      rw [z] at h1
      rw [show digitsVal (tl ("0" : Str)) = 0 by decide +kernel] at h1
      omega
    · cases h
theorem dS_digits (n : Nat) : AllDigits (tl (dS n)) ∧ tl (dS n) ≠ [] := by
  rw [tl_dS]
  exact ⟨TL.numL_digits n, TL.numL_ne n⟩
theorem asc_digits {s : Str} (h : AllDigits (tl s)) : Asc s := fun c hc => by have := h c hc; omega
end Hk
end S_Qw
section S_Qx
namespace P04
open PySem PySem.Spec PyProof.Rows L2 Tl Hk TL NumText
/-- the law's way -/
def badL (s : Str) : Bool := decide (s = "") || (decide (4 < s.length) || (((tl s).any fun c => !decide (c ∈ tl ("0123456789" : Str))) || decide ((tl s)[0]? = some 48)))
abbrev nm (s : Str) : Option Int := num 1 1000 s
set_option maxHeartbeats 4000000 in
theorem nm_dS : ∀ n : Nat, n < 1001 → 1 ≤ n → nm (dS n) = some (n : Int) := by decide +kernel
set_option maxHeartbeats 4000000 in
theorem good_dS : ∀ n : Nat, n < 1001 → 1 ≤ n → badL (dS n) = false := by decide +kernel
theorem tl_digs : tl ("0123456789" : Str) = [48, 49, 50, 51, 52, 53, 54, 55, 56, 57] := by decide +kernel
theorem nm_some {s : Str} {i : Int} (ha : Asc s) (h : nm s = some i) : ∃ n : Nat, i = (n : Int) ∧ s = dS n ∧ 1 ≤ n ∧ n ≤ 1000 := by
  obtain ⟨n, e, h1, h2, h3⟩ := num_some ha (by decide) h
  exact ⟨n, e, h1, by omega, by omega⟩
/-- bad for the law: none for the program -/
theorem nm_badL {s : Str} (ha : Asc s) (h : badL s = true) : nm s = none := by
  cases e : nm s with
  | none => rfl
  | some i =>
    obtain ⟨n, rfl, rfl, h1, h2⟩ := nm_some ha e
    rw [good_dS n (by omega) h1] at h
    cases h
theorem good_int {s : Str} (ha : Asc s) (h : badL s = false) : AllDigits (tl s) ∧ tl s ≠ [] ∧ s.length ≤ 4 ∧ PySem.intText? s = some ((digitsVal (tl s) : Nat) : Int) ∧ nm s = (if digitsVal (tl s) ≤ 1000 then some ((digitsVal (tl s) : Nat) : Int) else none) := by
  unfold badL at h
  rw [Bool.or_eq_false_iff, Bool.or_eq_false_iff, Bool.or_eq_false_iff] at h
  obtain ⟨h1, h2, h3, h4⟩ := h
  have h2 := of_decide_eq_false h2
  have hd : AllDigits (tl s) := fun c hc => by
    have := (List.any_eq_false.mp h3) c hc
    rw [Bool.not_eq_true, Bool.not_eq_false', decide_eq_true_eq, tl_digs] at this
    simp only [List.mem_cons, List.not_mem_nil, or_false] at this
    omega
  have hn : tl s ≠ [] := fun e => of_decide_eq_false h1 (ext_tl (by rw [e]; decide +kernel))
  have hi : PySem.intText? s = some ((digitsVal (tl s) : Nat) : Int) := PySem.intText_digits hd hn (by omega)
  have hs := dS_back hd hn (of_decide_eq_false h4)
  refine ⟨hd, hn, by omega, hi, ?_⟩
  have hp : 1 ≤ digitsVal (tl s) := by
    rcases Nat.eq_zero_or_pos (digitsVal (tl s)) with z | z
    · rw [z] at hs
      have : (tl s)[0]? = some 48 := by rw [hs]; decide +kernel
      exact absurd this (of_decide_eq_false h4)
    · exact z
  by_cases z : digitsVal (tl s) ≤ 1000
  · rw [if_pos z]
    have := nm_dS (digitsVal (tl s)) (by omega) hp
    rwa [← hs] at this
  · rw [if_neg z]
    cases e : nm s with
    | none => rfl
    | some i =>
      obtain ⟨n, rfl, e2, _, h6⟩ := nm_some ha e
      rw [hs] at e2
      have := dS_inj e2
      omega
end P04
end S_Qx
section S_Qy
namespace P04
open PySem PySem.Spec PyProof.Rows L2 Tl Hk TL NumText
theorem cut0_ge (s : Str) : s.length ≤ (cut0 s).length + 1 := by
  cases h : tl s with
  | nil => rw [cut0_not (by rw [h]; simp)] <;> exact Nat.le_succ _
  | cons c r =>
    by_cases z : c = 45
    · subst z
      rw [len_tl, len_tl, cut0_tl h, h]
      exact Nat.le_refl _
    · rw [cut0_not (by rw [h]; simpa using z)]
      exact Nat.le_succ _
section
open Evl
variable {K : PySem.W.Frag} {σ : L2.St} {H : Hp}
def YStr (z : Str) : Nat → Hp → V → Hp → Prop := fun i H v H' => H' = H ∧ ∃ c, z.cps[i]? = some c ∧ v = .str ⟨#[c]⟩
theorem ei_str {te : TE} {z : Str} (h : Ev te σ H (.str z)) : EvI (iStr te) σ H z.cps.size (YStr z) := fun H1 e R k =>
  h H1 e _ fun H2 e2 => ⟨z, rfl, k _ _ H2 e2 walk_str fun _ _ _ => trivial⟩
theorem aims_str {z : Str} {n j : Nat} : Aims (gName j) n (YStr z) (fun i σ => σ.set j (some (.str ⟨#[z.cps.getD i 0]⟩))) := fun i σ H v H' hi y => by
  obtain ⟨rfl, c, hc, rfl⟩ := y
  have : z.cps.getD i 0 = c := by rw [Array.getD_eq_getD_getElem?, hc]; rfl
  refine ⟨Ex.refl _, fun Q q => ?_⟩
  have q : Q (σ.set j (some (V.str ⟨#[z.cps.getD i 0]⟩))) H' := q
  rw [this] at q
  exact q
theorem ev_lenS {te : TE} {z : Str} (h : Ev te σ H (.str z)) (hz : z.length ≤ sizeLine) : Ev (tCB (fun xs H Q => ∃ a : Str, xs = [V.str a] ∧ a.length ≤ sizeLine ∧ Q (.int (a.length : Int)) H) (tCons te tNil)) σ H (.int (z.length : Int)) := fun H1 e Q q =>
  h H1 e _ fun H2 e2 => ⟨z, rfl, hz, q H2 e2⟩
end
/-- whether some sign is of a kind, by the list of them -/
theorem none_any {z : Str} {f : Nat → Bool} : (!(Evl.given z.cps.size (fun i => f (z.cps.getD i 0)) fun i => V.str ⟨#[z.cps.getD i 0]⟩).isEmpty) = z.cps.toList.any f := by
  unfold Evl.given
  rw [Bool.eq_iff_iff, List.any_eq_true, Bool.not_eq_true', ← Bool.not_eq_true, List.isEmpty_iff, List.map_eq_nil_iff, List.filter_eq_nil_iff]
  constructor
  · intro h
    obtain ⟨i, hi⟩ := Classical.not_forall.mp h
    obtain ⟨h1, h2⟩ := Classical.not_imp.mp hi
    have h1 := List.mem_range.mp h1
    have h2 := Classical.not_not.mp h2
    rw [Array.getD_eq_getD_getElem?, Array.getElem?_eq_getElem h1] at h2
    exact ⟨_, Array.mem_toList_iff.mpr (Array.getElem_mem h1), h2⟩
  · rintro ⟨c, hc, hf⟩ h
    obtain ⟨i, hi, rfl⟩ := Array.mem_iff_getElem.mp (Array.mem_toList_iff.mp hc)
    refine h i (List.mem_range.mpr hi) ?_
    rw [Array.getD_eq_getD_getElem?, Array.getElem?_eq_getElem hi]
    exact hf
set_option maxHeartbeats 1000000 in
theorem sign_ok : ∀ c, c < 128 → PyData.strOk ⟨#[c]⟩ = true := by decide +kernel
theorem dps_signs {K : PySem.W.Frag} {H : Hp} {z : Str} {f : Nat → Bool} (hz : Asc z) : ∀ v ∈ Evl.given z.cps.size f (fun i => V.str ⟨#[z.cps.getD i 0]⟩), DpS K H v := fun v hv => by
  unfold Evl.given at hv
  obtain ⟨i, hi, rfl⟩ := List.mem_map.mp hv
  have hi := List.mem_range.mp (List.mem_filter.mp hi).1
  refine ⟨.str _, .str _, ?_, by show 0 ≤ 5; omega⟩
  unfold PyData.canLay0
  rw [Array.getD_eq_getD_getElem?, Array.getElem?_eq_getElem hi]
  exact sign_ok _ (hz _ (Array.mem_toList_iff.mpr (Array.getElem_mem hi)))
def numV : Option Int → V
  | none => .non
  | some n => .int n
theorem scNumberIn : FnScope ["item", "least", "most", "digits", "number"] ["item", "least", "most"] (defScope sNumberIn) := ⟨rfl, rfl, rfl, by decide +kernel, rfl, by decide +kernel, by decide +kernel⟩
theorem scLNumber : FnScope ["item", "sign"] ["item"] (defScope sLNumber) := ⟨rfl, rfl, rfl, by decide +kernel, rfl, by decide +kernel, by decide +kernel⟩
def rNotC : R2 := fun x y H Q => ∃ (c : Nat) (z : Str), x = .str ⟨#[c]⟩ ∧ y = .str z ∧ Q (.bl (!decide (c ∈ z.cps.toList))) H
def spNumberIn : Sp := fun vs H Q _ => ∃ (s : Str) (lo hi : Int), vs = [.str s, .int lo, .int hi] ∧ Asc s ∧ s.length ≤ 1000000 ∧ ∀ H1, Evl.Ex H H1 → Q (numV (num lo hi s)) H1
theorem spv_numberIn {H : Hp} {s : Str} {lo hi : Int} (h : Asc s) (hl : s.length ≤ 1000000) : Evl.SpV spNumberIn [.str s, .int lo, .int hi] H (numV (num lo hi s)) := fun H1 e Q q E => ⟨s, lo, hi, rfl, h, hl, q⟩
def spLNumber : Sp := fun vs H Q _ => ∃ s : Str, vs = [.str s] ∧ Asc s ∧ s.length ≤ 30000 ∧ ∀ H1, Evl.Ex H H1 → Q (numV (nm s)) H1
theorem spv_lNumber {H : Hp} {s : Str} (h : Asc s) (hl : s.length ≤ 30000) : Evl.SpV spLNumber [.str s] H (numV (nm s)) := fun H1 e Q q E => ⟨s, rfl, h, hl, q⟩
section
variable {P : Program} {w : World} {K : PySem.W.Frag} {mg : Str → Option Value} {base : Heap}
theorem ok_numberIn {f fW : Addr} {fd fdW : FuncData} {k : Nat} (F : Fun K "number_in" "number_in" sNumberIn f fd)
    (FW : Fun K "is_within" "is_within" sWithin fW fdW) (GW : FnOk P w K mg base CX0 k fW fdW ["value", "least", "most"] (spWithin K)) (bW : Binds K fdW ["value", "least", "most"] []) (gW : mg "is_within" = some (.ref fW))
    {tM : Tok} (gM : mg "MOST_DIGITS" = some (.int 140 tM)) (mlen : mg "len" = none) (mint : mg "int" = none) : FnOk P w K mg base CX0 (k + 1) f fd ["item", "least", "most"] spNumberIn := by
  refine F.ok scNumberIn (fun vs H Q E h => ?_) (fun cdv A outer s H vs Q E hr h => ?_)
  · obtain ⟨s, lo, hi, rfl, _⟩ := h
    rfl
  · obtain ⟨z, lo, hi, rfl, hz, hl, q⟩ := h
    have nd := scNumberIn.nd
    refine ⟨_, pss_cons (ps_set (i := 3) nd rfl (.inl rfl) (pe_bm PySem.F.plainAttrs_str PySem.F.slot_str_removeprefix PySem.F.type_str_removeprefix mt_removeprefix (pv 0) (pa_cons pe_str pa_nil)))
      (pss_cons (ps_if (PW.pt (pw_or (pt_not (pt_val (pe_bm0 PySem.F.plainAttrs_str PySem.F.slot_str_isascii PySem.F.type_str_isascii mt_isascii (pv 3)))) (pw_or (pt_not (pt_val (pe_bm0 PySem.F.plainAttrs_str PySem.F.slot_str_isdigit PySem.F.type_str_isdigit mt_isdigit (pv 3))))
          (pw_or1 (pt_cmpR op_gt (pe_callB call_len_str (by rfl) mlen PySem.boot_len (pa_cons (pv 3) pa_nil)) (pe_glob (v := .int 140) (by rfl) gM ⟨_, rfl⟩) (nomark _)))))) (pss_one (ps_ret pe_non)) pss_nil)
      (pss_cons (ps_if (PW.pt (pw_and (pt_val (pe_bm PySem.F.plainAttrs_str PySem.F.slot_str_startswith PySem.F.type_str_startswith mt_startswith (pv 3) (pa_cons pe_str pa_nil))) (pw_and1 (pt_cmpR op_ne (pv 0) pe_str (nomark _))))) (pss_one (ps_ret pe_non)) pss_nil)
      (pss_cons (ps_set (i := 4) nd rfl (.inl rfl) (pe_callTy call_int_str (by rfl) mint (by decide +kernel) (pa_cons (pv 0) pa_nil)))
      (pss_one (ps_ret (pe_ifExp (pt_val (pe_call GW hr (by rfl) gW FW.kp bW .nil pass0 (pa_cons (pv 4) (pa_cons (pv 1) (pa_cons (pv 2) pa_nil))))) (pv 4) pe_non)))))), ?_⟩
    have sz : z.length ≤ sizeLine := by rw [sizeLine_eq]; omega
    refine ⟨.str z, rfl, rfl, z, "-", rfl, rfl, sz, ?_⟩
    dsimp only [gName]
    have sz2 : (cut0 z).length ≤ sizeLine := by have := cut0_len z; rw [sizeLine_eq]; omega
    have b1 : Evl.EvT (tNot (tB (tBM0 K "str" (fun x xs H Q => ∃ a, x = .str a ∧ xs = [] ∧ True ∧ Q (.bl (Txt.isascii a)) H) (tVar 3)))) [some (.str z), some (.int lo), some (.int hi), some (.str (cut0 z)), none] H (!Txt.isascii (cut0 z)) := Evl.et_not (Evl.et_B fun H1 e Q' q' => ⟨.str (cut0 z), rfl, rfl, cut0 z, rfl, rfl, trivial, q' H1 (Evl.Ex.refl _)⟩)
    have b2 : Evl.EvT (tNot (tB (tBM0 K "str" (fun x xs H Q => ∃ a, x = .str a ∧ xs = [] ∧ True ∧ Q (.bl (Txt.isdigit a)) H) (tVar 3)))) [some (.str z), some (.int lo), some (.int hi), some (.str (cut0 z)), none] H (!Txt.isdigit (cut0 z)) := Evl.et_not (Evl.et_B fun H1 e Q' q' => ⟨.str (cut0 z), rfl, rfl, cut0 z, rfl, rfl, trivial, q' H1 (Evl.Ex.refl _)⟩)
    refine Evl.q_when (b := badP z) (Evl.et_or b1 fun _ => Evl.et_or b2 fun _ => Evl.et_is (Evl.et_test (Evl.ev_op (x := .int ((cut0 z).length : Int)) (fun H1 e Q' q' => ⟨.str (cut0 z), rfl, cut0 z, rfl, sz2, q' H1 (Evl.Ex.refl _)⟩) Evl.ev_c Evl.rv_I0)) (decide_eq_decide.mpr ⟨fun h => by omega, fun h => by omega⟩)) (fun hb H1 e1 => ?_) fun hb H1 e1 => ?_
    · refine Evl.s_ret (v := .non) Evl.ev_c fun H2 e2 => ?_
      have hn : num lo hi z = none := by unfold num; rw [if_pos hb]
      have := q H2 (e1.trans e2)
      rwa [hn] at this
    refine Evl.q_when (b := zeroP z) (Evl.et_is (Evl.et_and (a := Txt.startswith (cut0 z) "0") (b := !decide (z = "0")) (Evl.et_B fun H1 e Q' q' => ⟨.str (cut0 z), rfl, rfl, cut0 z, "0", rfl, rfl, q' H1 (Evl.Ex.refl _)⟩) fun _ => Evl.et_is (Evl.et_test (Evl.ev_op (Evl.ev_var rfl) Evl.ev_c (Evl.rv_ne rfl))) (by
        by_cases y : z = "0"
        · rw [decide_eq_true y, decide_eq_true (congrArg V.str y)]
        · rw [decide_eq_false y, decide_eq_false fun u => y (V.str.inj u)])) rfl) (fun hb2 H2 e2 => ?_) fun hb2 H2 e2 => ?_
    · refine Evl.s_ret (v := .non) Evl.ev_c fun H3 e3 => ?_
      have hn : num lo hi z = none := by unfold num; rw [if_neg (by rw [hb]; decide), if_pos hb2]
      have := q H3 ((e1.trans e2).trans e3)
      rwa [hn] at this
    obtain ⟨i, hi'⟩ : ∃ i, PySem.intText? z = some i := by
      rcases int_of hz hb with ⟨r, _, _, _, h⟩ | ⟨_, _, _, h⟩ <;> exact ⟨_, h⟩
    have l3 : z.length ≤ 640 := by
      have := cut0_ge z
      unfold badP at hb
      rw [Bool.or_eq_false_iff, Bool.or_eq_false_iff] at hb
      have := of_decide_eq_false hb.2.2
      omega
    refine Evl.q_asg (v := .int i) (fun H1 e Q' q' => ⟨.str z, rfl, z, i, rfl, hi', l3, q' H1 (Evl.Ex.refl _)⟩) fun H3 e3 => ?_
    refine Evl.s_ret (v := numV (num lo hi z)) (Evl.ev_if (b := decide (lo ≤ i) && decide (i ≤ hi)) (Evl.et_is (Evl.et_B (Evl.ev_call (Evl.ea_cons (Evl.ev_var rfl) (Evl.ea_cons (Evl.ev_var rfl) (Evl.ea_cons (Evl.ev_var rfl) Evl.ea_nil))) (spv_within (.int _) trivial trivial))) rfl) (fun hc => Evl.ev_is (Evl.ev_var rfl) ?_) (fun hc => Evl.ev_is Evl.ev_c ?_)) fun H4 e4 => q H4 (((e1.trans e2).trans e3).trans e4)
    · unfold num
      rw [if_neg (by rw [hb]; decide), if_neg (by rw [hb2]; decide), hi']
      dsimp only
      rw [if_pos hc]
      rfl
    · unfold num
      rw [if_neg (by rw [hb]; decide), if_neg (by rw [hb2]; decide), hi']
      dsimp only
      rw [if_neg (by rw [hc]; decide)]
      rfl
theorem ok_lNumber {f : Addr} {fd : FuncData} {k : Nat} (F : Fun K "_law_number" "_law_number" sLNumber f fd) (mlen : mg "len" = none) (mint : mg "int" = none) : FnOk P w K mg base CX0 (k + 1) f fd ["item"] spLNumber := by
  refine F.ok scLNumber (fun vs H Q E h => ?_) (fun cdv A outer s H vs Q E hr h => ?_)
  · obtain ⟨s, rfl, _⟩ := h
    rfl
  · obtain ⟨z, rfl, hz, hl, q⟩ := h
    have nd := scLNumber.nd
    refine ⟨_, pss_cons (ps_if (PW.pt (pw_or (pt_cmpR op_eq (pv 0) pe_str (nomark _)) (pw_or (pt_cmpR op_gt (pe_callB call_len_str (by rfl) mlen PySem.boot_len (pa_cons (pv 0) pa_nil)) pe_int (nomark _))
        (pw_or (pt_cmpR (op_neD hr.units) (pe_lc (own := [("sign", 1)]) (g := gName 1) (tt := tTest (tOp rNotC (tVar 1) (tC (.str "0123456789")))) (te := tVar 1) rfl nd (pi_str (pv 0)) (blkOk_by (N := ["item", "sign"]) (sc := defScope sLNumber) (by decide +kernel)) (fun _ _ _ _ _ => pg_name (i := 1) nd rfl (Or.inl rfl))
          (fun _ _ _ _ _ => pts_one (pt_cmpR op_notIn_sign (pv 1) pe_str (by with_unfolding_all rfl))) (fun _ _ _ _ _ => pv 1)) (pe_lst pa_nil) (nomark _))
        (pw_or1 (pt_cmpR op_eq (pe_ix ix_str (pv 0) pe_int (fun _ _ => rfl)) pe_str (nomark _))))))) (pss_one (ps_ret pe_non)) pss_nil)
      (pss_one (ps_ret (pe_ifExp (pt_cmpR op_le (pe_callTy call_int_str (by rfl) mint (by decide +kernel) (pa_cons (pv 0) pa_nil)) pe_int (nomark _)) (pe_callTy call_int_str (by rfl) mint (by decide +kernel) (pa_cons (pv 0) pa_nil)) pe_non))), ?_⟩
    have sz : z.length ≤ sizeLine := by rw [sizeLine_eq]; omega
    have hsz : z.cps.size ≤ 30000 := hl
    have eqS : ∀ t : Str, decide (V.str z = V.str t) = decide (z = t) := fun t => decide_eq_decide.mpr ⟨fun y => V.str.inj y, fun y => congrArg V.str y⟩
    refine Evl.q_when (b := badL z) (Evl.et_or (Evl.et_is (Evl.et_test (Evl.ev_op (Evl.ev_var rfl) Evl.ev_c (Evl.rv_eq rfl))) (eqS "")) fun hne => Evl.et_or (a := decide (4 < z.length)) (b := ((tl z).any fun c => !decide (c ∈ tl ("0123456789" : Str))) || decide ((tl z)[0]? = some 48)) (Evl.et_is (Evl.et_test (Evl.ev_op (x := .int (z.length : Int)) (fun H1 e Q' q' => ⟨.str z, rfl, z, rfl, sz, q' H1 (Evl.Ex.refl _)⟩) Evl.ev_c Evl.rv_I0)) (decide_eq_decide.mpr ⟨fun h => by omega, fun h => by omega⟩)) fun _ => Evl.et_or (Evl.et_is (Evl.et_test (ev_neNilD (xs := Evl.given z.cps.size (fun i => !decide (z.cps.getD i 0 ∈ tl ("0123456789" : Str))) fun i => V.str ⟨#[z.cps.getD i 0]⟩) (el_lcI (te := tVar 1) (vs := [1]) (fun i => !decide (z.cps.getD i 0 ∈ tl ("0123456789" : Str))) (fun i => V.str ⟨#[z.cps.getD i 0]⟩) (ei_str (Evl.ev_var (i := 0) rfl)) (aims_str (j := 1)) (fun _ => rfl) (by omega) (fun i H1 e hi => ?_) fun i H1 e hi _ => Evl.ev_var rfl) (Evl.el_lst Evl.ea_nil (Nat.zero_le _)) (dps_signs hz))) (none_any (f := fun c => !decide (c ∈ tl ("0123456789" : Str))))) fun _ => ?_) (fun hb H1 e1 => ?_) fun hb H1 e1 => ?_
    · exact Evl.et_test (Evl.ev_op (x := .str ⟨#[z.cps.getD i 0]⟩) (y := .str "0123456789") (Evl.ev_var rfl) Evl.ev_c fun G eG Q' q' => ⟨_, _, rfl, rfl, q' G (Evl.Ex.refl _)⟩)
    · have hne2 : 0 < z.cps.size := by
        rcases Nat.eq_zero_or_pos z.cps.size with y | y
        · exact absurd (ext_tl (by
            have : z.cps.toList = [] := List.length_eq_zero_iff.mp (by rw [Array.length_toList]; exact y)
            show tl z = tl ""
            rw [show tl z = [] from this]
            decide +kernel)) (of_decide_eq_false hne)
        · exact y
      have h0 : atI z.cps.toList 0 = some z.cps[0] := by
        refine atI_nat (j := 0) ?_
        rw [Array.getElem?_toList, Array.getElem?_eq_getElem hne2]
      refine Evl.et_is (Evl.et_test (Evl.ev_op (x := .str ⟨#[z.cps[0]]⟩) (Evl.ev_op (Evl.ev_var rfl) Evl.ev_c fun G eG Q' q' => ⟨z, _, _, rfl, rfl, sz, h0, q' G (Evl.Ex.refl _)⟩) Evl.ev_c (Evl.rv_eq rfl))) ?_
      show _ = decide (z.cps.toList[0]? = some 48)
      rw [Array.getElem?_toList, Array.getElem?_eq_getElem hne2]
      refine decide_eq_decide.mpr ⟨fun y => ?_, fun y => ?_⟩
      · have h2 : (#[z.cps[0]] : Array Nat) = #[48] := congrArg Str.cps (V.str.inj y)
        have h3 : [z.cps[0]] = [48] := congrArg Array.toList h2
        rw [List.cons.inj h3 |>.1]
      · rw [Option.some.inj y]
        rfl
    · refine Evl.s_ret (v := .non) Evl.ev_c fun H2 e2 => ?_
      have hn : nm z = none := nm_badL hz hb
      have := q H2 (e1.trans e2)
      rwa [hn] at this
    · obtain ⟨_, _, l4, hi, hm⟩ := good_int hz hb
      refine Evl.s_ret (v := numV (nm z)) (Evl.ev_if (b := decide (((digitsVal (tl z) : Nat) : Int) ≤ 1000)) (Evl.et_test (Evl.ev_op (fun G eG Q' q' => ⟨.str z, rfl, z, _, rfl, hi, by omega, q' G (Evl.Ex.refl _)⟩) Evl.ev_c Evl.rv_I0)) (fun hc => Evl.ev_is (fun G eG Q' q' => ⟨.str z, rfl, z, _, rfl, hi, by omega, q' G (Evl.Ex.refl _)⟩) ?_) (fun hc => Evl.ev_is Evl.ev_c ?_)) fun H2 e2 => q H2 (e1.trans e2)
      · have hc := of_decide_eq_true hc
        rw [hm, if_pos (by omega)]
        rfl
      · have hc := of_decide_eq_false hc
        rw [hm, if_neg (by omega)]
        rfl
end
end P04
end S_Qy
section S_Xn
namespace EnL
open PySem PySem.Spec PyProof.Rows L2 Tl Hk
/-! ### a walk over what stands at B: the body may write whatever is not of B -/
def EvB (wi : TI) (σ : L2.St) (B : Hp) (n : Nat) (Y : Nat → Hp → V → Hp → Prop) : Prop := ∀ H1, Evl.Ex B H1 → ∀ R : It → Hp → Prop,
  (∀ (J : It) (G : Hp → Prop) H2, Evl.Ex H1 H2 → Walk J n G Y → (∀ A, Evl.Ex B A → G A) → R J H2) → wi σ H1 R
theorem eb_enum {K : PySem.W.Frag} {σ : L2.St} {B : Hp} {a : Addr} {xs : List V} {ta : TA} (h : Evl.EvA ta σ B [.ref a]) (hx : SqL K B a xs) : EvB (iEnum K ta) σ B xs.length (YPair (fun i => some (.int (i : Nat))) (fun i => xs[i]?)) := fun H1 e R k =>
  h H1 e _ fun H2 e2 => ⟨a, xs, rfl, Evl.ex_l (e.trans e2) hx, k _ _ H2 e2 walk_enum fun A ab => Evl.ex_l ab hx⟩
theorem s_forB {wi : TI} {g : TG} {tb : TS} {D : Ends} {σ : L2.St} {H B : Hp} {n : Nat} {Y : Nat → Hp → V → Hp → Prop} {s : Nat → L2.St → L2.St} (hw : EvB wi σ B n Y) (aim : Aims g n Y s) (e : Evl.Ex B H) (Pv : Nat → L2.St → Hp → Prop) (h0 : ∀ H2, Evl.Ex H H2 → Pv 0 σ H2)
    (hk : ∀ i σ' H', i ≤ n → Pv i σ' H' → Evl.Ex B H') (hs : ∀ i σ' H' H'', i < n → Pv i σ' H' → Evl.Ex H' H'' → tb { D with nx := Pv (i + 1), ct := Pv (i + 1), bk := D.nx } (s i σ') H'')
    (hd : ∀ σ' H', Pv n σ' H' → D.nx σ' H') : tFor wi g tb D σ H :=
  hw H e _ fun J G H2 e2 w sG => for_it w Pv (h0 H2 e2) (fun i σ' H' hi p => sG H' (hk i σ' H' hi p))
    (fun i x σ' H' H'' hi p y => by
      obtain ⟨ab, k⟩ := aim i σ' H' x H'' hi y
      exact k _ (hs i σ' H' H'' hi p ab)) (fun σ' H' p => hd σ' H' p)
theorem q_forB {wi : TI} {g : TG} {tb tz : TS} {D : Ends} {σ : L2.St} {H B : Hp} {n : Nat} {Y : Nat → Hp → V → Hp → Prop} {s : Nat → L2.St → L2.St} (hw : EvB wi σ B n Y) (aim : Aims g n Y s) (e : Evl.Ex B H) (Pv : Nat → L2.St → Hp → Prop) (h0 : ∀ H2, Evl.Ex H H2 → Pv 0 σ H2)
    (hk : ∀ i σ' H', i ≤ n → Pv i σ' H' → Evl.Ex B H') (hs : ∀ i σ' H' H'', i < n → Pv i σ' H' → Evl.Ex H' H'' → tb { D with nx := Pv (i + 1), ct := Pv (i + 1), bk := tz D } (s i σ') H'')
    (hd : ∀ σ' H', Pv n σ' H' → tz D σ' H') : tSeq (tFor wi g tb) tz D σ H := s_forB (D := { D with nx := tz D }) hw aim e Pv h0 hk hs hd
/-! ### a new list of new lists of ints, all unlike -/
structure Tw (H0 H : Hp) (A : Addr) (as : List Addr) (ts : List (List Int)) : Prop where
  ex : Evl.Ex H0 H
  lst : H A = some (.lst (as.map V.ref))
  nA : H0 A = none
  len : as.length = ts.length
  nd : as.Nodup
  row : ∀ (i : Nat) (a : Addr) (ns : List Int), as[i]? = some a → ts[i]? = some ns → a ≠ A ∧ H0 a = none ∧ H a = some (.lst (ns.map V.int))
variable {H0 H H' : Hp} {A a : Addr} {as : List Addr} {ts : List (List Int)} {i : Nat} {ns : List Int}
theorem Tw.up (w : Tw H0 H A as ts) (e : Evl.Ex H H') : Tw H0 H' A as ts := ⟨w.ex.trans e, e _ _ w.lst, w.nA, w.len, w.nd, fun i a ns p q => by
  obtain ⟨r1, r2, r3⟩ := w.row i a ns p q
  exact ⟨r1, r2, e _ _ r3⟩⟩
theorem Tw.set (w : Tw H0 H A as ts) (ha : as[i]? = some a) (hi : i < ts.length) : Tw H0 (upd H a (.lst (ns.map V.int))) A as (ts.set i ns) := by
  obtain ⟨r1, r2, r3⟩ := w.row i a _ ha (List.getElem?_eq_getElem hi)
  refine ⟨fun b o h => ?_, by rw [upd_ne r1.symm]; exact w.lst, w.nA, by rw [w.len, List.length_set], w.nd, fun j b ms hj hm => ?_⟩
  · rw [upd_ne (fun z => by rw [z, r2] at h; cases h)]
    exact w.ex b o h
  · by_cases z : j = i
    · subst z
      rw [ha] at hj
      cases hj
      rw [List.getElem?_set_self hi] at hm
      cases hm
      exact ⟨r1, r2, upd_same⟩
    · rw [List.getElem?_set_ne (Ne.symm z)] at hm
      obtain ⟨q1, q2, q3⟩ := w.row j b ms hj hm
      refine ⟨q1, q2, ?_⟩
      rw [upd_ne (fun e => z ?_)]
      · exact q3
      · subst e
        obtain ⟨l1, e1⟩ := List.getElem?_eq_some_iff.mp hj
        obtain ⟨l2, e2⟩ := List.getElem?_eq_some_iff.mp ha
        exact (List.getElem_inj w.nd).mp (e1.trans e2.symm)
/-- a row that stands is put behind -/
theorem Tw.put (w : Tw H0 H A as ts) (ha : H a = some (.lst (ns.map V.int))) (h0 : H0 a = none) (hA : a ≠ A) (hn : a ∉ as) : Tw H0 (upd H A (.lst (as.map V.ref ++ [.ref a]))) A (as ++ [a]) (ts ++ [ns]) := by
  refine ⟨fun b o h => ?_, by rw [upd_same, List.map_append]; rfl, w.nA, by rw [List.length_append, List.length_append, w.len]; rfl, ?_, fun j b ms hj hm => ?_⟩
  · rw [upd_ne (fun z => by rw [z, w.nA] at h; cases h)]
    exact w.ex b o h
  · rw [List.nodup_append]
    refine ⟨w.nd, by simp, fun x hx y hy e => ?_⟩
    rw [List.mem_singleton.mp hy] at e
    subst e
    exact hn hx
  · rcases Nat.lt_or_ge j as.length with z | z
    · rw [List.getElem?_append_left z] at hj
      rw [List.getElem?_append_left (by rw [← w.len]; exact z)] at hm
      obtain ⟨q1, q2, q3⟩ := w.row j b ms hj hm
      exact ⟨q1, q2, by rw [upd_ne q1]; exact q3⟩
    · rw [List.getElem?_append_right z] at hj
      rw [List.getElem?_append_right (by rw [← w.len]; exact z), ← w.len] at hm
      have : j - as.length = 0 := by
        have := (List.getElem?_eq_some_iff.mp hj).1
        simp at this
        omega
      rw [this] at hj hm
      cases hj
      cases hm
      exact ⟨hA, h0, by rw [upd_ne hA]; exact ha⟩
theorem Tw.notin (w : Tw H0 H A as ts) (ha : H a = none) : a ≠ A ∧ a ∉ as := ⟨(fun z => by rw [z, w.lst] at ha; cases ha), fun hm => by
  obtain ⟨i, hi, rfl⟩ := List.mem_iff_getElem.mp hm
  have := (w.row i _ _ (List.getElem?_eq_getElem hi) (List.getElem?_eq_getElem (by rw [← w.len]; exact hi))).2.2
  rw [this] at ha
  cases ha⟩
theorem Tw.app (w : Tw H0 H A as ts) (ha : H a = none) : Tw H0 (upd (upd H a (.lst [])) A (.lst (as.map V.ref ++ [.ref a]))) A (as ++ [a]) (ts ++ [[]]) := by
  obtain ⟨n1, n2⟩ := w.notin ha
  exact (w.up (Evl.Ex.new (o := .lst []) ha)).put (ns := []) upd_same (Evl.fresh_back w.ex ha) n1 n2
end EnL
end S_Xn
section S_Qz
namespace P04
open PySem PySem.Spec PyProof.Rows L2 Tl Hk LamX EnL TL
/-! ### the reading of items -/
def par : List Str → Nat → List (List Int) → List Int → Bool → Bool → Except Nat (List (List Int))
  | [], i, done, row, b, _ => if b = true then .ok (done ++ [row]) else .error i
  | x :: r, i, done, row, b, c =>
    if (decide (x = "/") && (b && decide (done.length + 1 < 1000))) = true then par r (i + 1) (done ++ [row]) [] false false
    else if (decide (x = "-") && !b) = true then par r (i + 1) done row true true
    else if (c || (decide (nm x = none) || (decide (nm x = some ((done.length + 1 : Nat) : Int)) || row.any fun p => decide (nm x = some p)))) = true then .error i
    else par r (i + 1) done (row ++ [(nm x).getD 0]) true c
abbrev parse (its : List Str) : Except Nat (List (List Int)) := par its 0 [] [] false false
abbrev sTxtI : Stmt := inClass sTextC 0
theorem scTxtI : FnScope ["self", "line", "item"] ["self", "line", "item"] (defScope sTxtI) := ⟨rfl, rfl, rfl, by decide +kernel, rfl, by decide +kernel, by decide +kernel⟩
/-! ### BadText -/
def spTxtI (C : Addr) : Sp := fun vs H Q _ => ∃ (a : Addr) (x y : V), vs = [.ref a, x, y] ∧ H a = some (exo a C none) ∧ ∀ dx H', H dx = none → dx ≠ a → (∀ b o, b ≠ a → H b = some o → H' b = some o) → H' a = some (exo a C (some dx)) → H' dx = some (exd dx [("item", y), ("line", x)]) → Q .non H'
/-- BadText(0, i) is raised -/
abbrev RzT (C : Addr) (H : Hp) (E : XK) (i : Nat) : Prop := ∀ H1 d, Evl.Ex H H1 → H1 d = none → E (.ref C) (some d) (upd H1 d (.xd [(("item" : Str), .int (i : Int)), (("line" : Str), .int 0)]))
abbrev nTI : List Str := ["items", "turns", "begun", "closed", "index", "item", "place"]
theorem scTurnsIn : FnScope nTI ["items"] (defScope sTurnsIn) := ⟨rfl, rfl, rfl, by decide +kernel, rfl, by decide +kernel, by decide +kernel⟩
/-- items that may be read -/
def Its (its : List Str) : Prop := its.length ≤ 25000 ∧ ∀ s ∈ its, Asc s ∧ s.length ≤ 25000
def spTurnsIn (K : PySem.W.Frag) (C : Addr) : Sp := fun vs H Q E => ∃ (l : Addr) (its : List Str), vs = [.ref l] ∧ SqL K H l (its.map V.str) ∧ Its its ∧ (∀ i, parse its = .error i → RzT C H E i) ∧ (∀ ts, parse its = .ok ts → ∀ A as H1, Tw H H1 A as ts → Q (.ref A) H1)
theorem asg2_go {te : TE} {tz : TS} {i j : Nat} {D : Ends} {σ : L2.St} {H : Hp} (h : te σ H fun x H1 => tz D ((σ.set i (some x)).set j (some x)) H1) : tSeq (tAsg2 te (gName i) (gName j)) tz D σ H := h
theorem asg2_last {te : TE} {i j : Nat} {D : Ends} {σ : L2.St} {H : Hp} (h : te σ H fun x H1 => D.nx ((σ.set i (some x)).set j (some x)) H1) : tAsg2 te (gName i) (gName j) D σ H := h
theorem asg_last {te : TE} {i : Nat} {D : Ends} {σ : L2.St} {H : Hp} (h : te σ H fun v H1 => D.nx (σ.set i (some v)) H1) : tAsg te (gName i) D σ H := h
theorem del_upd {H : Hp} {d : Addr} {o : HO} : upd (fun b => if b = d then none else H b) d o = upd H d o := by
  funext b
  by_cases z : b = d
  · rw [z, upd_same, upd_same]
  · rw [upd_ne z, upd_ne z, if_neg z]
theorem rz_end {C : Addr} {i : Nat} {H H2 H' : Hp} {a dx : Addr} {E : XK} {o : HO} (h : RzT C H E i) (e : Evl.Ex H H2) (ha : H2 a = none) (hdx : upd H2 a o dx = none) (dne : dx ≠ a) (hk : ∀ b u, b ≠ a → upd H2 a o b = some u → H' b = some u) :
    E (.ref C) (some dx) (upd (del H' a) dx (.xd [(("item" : Str), .int (i : Int)), (("line" : Str), .int 0)])) := by
  have hda : H2 dx = none := by rw [upd_ne dne] at hdx; exact hdx
  have eG : upd (del H' a) dx (.xd [(("item" : Str), .int (i : Int)), (("line" : Str), .int 0)]) = upd (fun b => if b = dx then none else del H' a b) dx (.xd [(("item" : Str), .int (i : Int)), (("line" : Str), .int 0)]) := del_upd.symm
  rw [eG]
  refine h (fun b => if b = dx then none else del H' a b) dx (fun b u hu => ?_) (if_pos rfl)
  have hu2 := e _ _ hu
  have nd : b ≠ dx := fun z => by rw [z, hda] at hu2; cases hu2
  have na : b ≠ a := fun z => by rw [z, ha] at hu2; cases hu2
  dsimp only
  rw [if_neg nd, del_ne na]
  exact hk b u na (by rw [upd_ne na]; exact hu2)
theorem mkt_go {C : Addr} {i : Nat} {H H1 : Hp} {σ : L2.St} {ta : TA} {Q : XK} (ha : Evl.EvA ta σ H1 [.int 0, .int (i : Int)]) (h : RzT C H Q i) (e : Evl.Ex H H1) : tMkO C (spTxtI C) [] ta σ H1 Q := ha H1 (Evl.Ex.refl _) _ fun H2 e2 =>
  ⟨by show 2 ≤ 1000; decide, fun a' ha' => ⟨a', .int 0, .int (i : Int), rfl, upd_same, fun dx H' hdx dne hk hH' hD => ⟨rfl, dx, _, hH', hD, (by rw [upd_ne dne] at hdx; exact hdx), rz_end h (e.trans e2) ha' hdx dne hk⟩⟩⟩
theorem tw_last {H0 H : Hp} {A : Addr} {as : List Addr} {done : List (List Int)} {row : List Int} (w : Tw H0 H A as (done ++ [row])) : ∃ a, as[done.length]? = some a ∧ atI (as.map V.ref) (-1) = some (.ref a) ∧ H a = some (.lst (row.map V.int)) ∧ a ≠ A := by
  have hl := w.len
  rw [List.length_append, List.length_singleton] at hl
  obtain ⟨as', a, rfl⟩ : ∃ (as' : List Addr) (a : Addr), as = as' ++ [a] := by
    have hne : as ≠ [] := fun z => by rw [z] at hl; cases hl
    exact ⟨as.dropLast, as.getLast hne, (List.dropLast_concat_getLast hne).symm⟩
  have hl2 : as'.length = done.length := by simpa using hl
  have ha : (as' ++ [a])[done.length]? = some a := by rw [← hl2]; simp
  have hr : (done ++ [row])[done.length]? = some row := by simp
  obtain ⟨r1, r2, r3⟩ := w.row _ _ _ ha hr
  refine ⟨a, ha, ?_, r3, r1⟩
  rw [List.map_append]
  exact atI_last _ _
theorem done_set {done : List (List Int)} {row r : List Int} : (done ++ [row]).set done.length r = done ++ [r] := by simp
section
variable {P : Program} {w : World} {K : PySem.W.Frag} {mg : Str → Option Value} {base : Heap}
theorem ok_txtI {f C : Addr} {oc od osl : _} {kV doc pm cdv ct : Value} {an : Option Addr} {k : Nat} (T : OexC K C) (n1 : PySem.W.findIn K (.ref C) "line" = some none) (n2 : PySem.W.findIn K (.ref C) "item" = some none)
    (lk : K.lookup f = some ⟨oc, od, .func (PySem.W.fnOf "__init__" "BadText.__init__" (defArgs sTxtI) (defBody sTxtI) (defScope sTxtI) .none kV doc pm an cdv ct), osl⟩) (hcd : PySem.W.codeIn K cdv "BadText.__init__" = true) :
    FnOk P w K mg base CX0 (k + 1) f (PySem.W.fnOf "__init__" "BadText.__init__" (defArgs sTxtI) (defBody sTxtI) (defScope sTxtI) .none kV doc pm an cdv ct) ["self", "line", "item"] (spTxtI C) := by
  refine fn_of lk hcd scTxtI (fun {vs H Q E} h => ?_) (fun A outer s H vs Q E hr h => ?_)
  · obtain ⟨a, x, y, rfl, _⟩ := h
    rfl
  · obtain ⟨a, x, y, rfl, ha, q⟩ := h
    refine ⟨_, pss_cons (ps_ost (pv 0) (pv 1)) (pss_one (ps_ost (pv 0) (pv 2))), ?_⟩
    refine ⟨x, rfl, .ref a, rfl, a, C, rfl, T, n1, .inl ⟨ha, fun dx hd dne => ?_⟩⟩
    have ad : dx ≠ a := dne
    refine ⟨y, rfl, .ref a, rfl, a, C, rfl, T, n2, .inr ⟨dx, _, upd_same, by rw [upd_ne ad, upd_same], by show 1 ≤ 900; decide, ?_⟩⟩
    refine q dx _ hd dne (fun b o hb h => ?_) (by rw [upd_ne ad.symm, upd_same]) upd_same
    rw [upd_ne (ne_of_none h hd), upd_ne hb, upd_ne (ne_of_none h hd)]
    exact h
set_option maxHeartbeats 2000000 in
theorem ok_turnsIn {f fN fTI C : Addr} {fd fdN fdTI : FuncData} {k : Nat} (F : Fun K "_turns_in" "_turns_in" sTurnsIn f fd)
    (FN : Fun K "number_in" "number_in" sNumberIn fN fdN) (GN : FnOk P w K mg base CX0 (k + 2) fN fdN ["item", "least", "most"] spNumberIn) (bN : Binds K fdN ["item", "least", "most"] []) (gN : mg "number_in" = some (.ref fN))
    (TM : OexC K C) (iC : PySem.W.findIn K (.ref C) "__init__" = some (some (.ref fTI))) (tI : PySem.W.typeIn K (.ref fTI) = some (.type "function")) (GI : FnOk P w K mg base CX0 (k + 1) fTI fdTI ["self", "line", "item"] (spTxtI C)) (bI : Binds K fdTI ["self", "line", "item"] []) (gC : mg "BadText" = some (.ref C))
    {tM : Tok} (gM : mg "MOST_PLACES" = some (.int 1000 tM)) (mlen : mg "len" = none) (menum : mg "enumerate" = none) : FnOk P w K mg base (L2.CX P w) (k + 3) f fd ["items"] (spTurnsIn K C) := by
  refine F.okX scTurnsIn (fun vs H Q E h => ?_) (fun cdv A outer s H vs Q E hr h => ?_)
  · obtain ⟨l, its, rfl, _⟩ := h
    rfl
  · obtain ⟨l, its, rfl, hl, hI, hno, hyes⟩ := h
    have nd := scTurnsIn.nd
    refine ⟨_, pss_cons (ps_set (i := 1) nd rfl (.inl rfl) (pe_lst (pa_cons (pe_lst pa_nil) pa_nil)))
      (pss_cons (ps_asg2 pe_bl (pg_name (i := 2) nd rfl (Or.inl rfl)) (pg_name (i := 3) nd rfl (Or.inl rfl)))
      (pss_cons (ps_for (passes_of rfl) rfl (pi_enum (by rfl) menum (pa_cons (pv 0) pa_nil)) (pg_tup (by rfl) (pgs_cons (pg_name (i := 4) nd rfl (Or.inl rfl)) (pgs_cons (pg_name (i := 5) nd rfl (Or.inl rfl)) pgs_nil)))
        (pss_one (ps_if (PW.pt (pw_and (pt_cmpR op_eq (pv 5) pe_str (nomark _)) (pw_and (pt_val (pv 2)) (pw_and1 (pt_cmpR op_lt (pe_callB call_len_seq (by rfl) mlen PySem.boot_len (pa_cons (pv 1) pa_nil)) (pe_glob (v := .int 1000) (by rfl) gM ⟨_, rfl⟩) (nomark _))))))
          (pss_cons (ps_expr (pe_bm PySem.F.plainAttrs_list PySem.F.slot_list_append PySem.F.type_list_append mt_append (pv 1) (pa_cons (pe_lst pa_nil) pa_nil)))
            (pss_one (ps_asg2 pe_bl (pg_name (i := 2) nd rfl (Or.inl rfl)) (pg_name (i := 3) nd rfl (Or.inl rfl)))))
          (pss_one (ps_if (PW.pt (pw_and (pt_cmpR op_eq (pv 5) pe_str (nomark _)) (pw_and1 (pt_not (pt_val (pv 2))))))
            (pss_one (ps_asg2 pe_bl (pg_name (i := 2) nd rfl (Or.inl rfl)) (pg_name (i := 3) nd rfl (Or.inl rfl))))
            (pss_cons (ps_set (i := 6) nd rfl (.inl rfl) (pe_call GN hr (by rfl) gN FN.kp bN .nil pass0 (pa_cons (pv 5) (pa_cons pe_int (pa_cons (pe_glob (v := .int 1000) (by rfl) gM ⟨_, rfl⟩) pa_nil)))))
            (pss_cons (ps_if (PW.pt (pw_or (pt_val (pv 3)) (pw_or (pt_cmpR op_isN (pv 6) pe_non (nomark _)) (pw_or (pt_cmpR op_eq (pv 6) (pe_callB call_len_seq (by rfl) mlen PySem.boot_len (pa_cons (pv 1) pa_nil)) (nomark _))
                (pw_or1 (pt_cmpR op_in_seq (pv 6) (pe_ix ix_list (pv 1) (pe_un un_neg pe_int) (fun _ _ => rfl)) (by with_unfolding_all rfl)))))))
              (pss_one (ps_raise rfl (takes_of rfl rfl rfl rfl) (pmk_oex TM iC tI GI hr bI .nil (fun _ _ _ _ _ _ _ c => False.elim c) (by rfl) gC (pa_cons pe_int (pa_cons (pv 4) pa_nil))))) pss_nil)
            (pss_cons (ps_expr (pe_bm PySem.F.plainAttrs_list PySem.F.slot_list_append PySem.F.type_list_append mt_append (pe_ix ix_list (pv 1) (pe_un un_neg pe_int) (fun _ _ => rfl)) (pa_cons (pv 6) pa_nil)))
            (pss_one (ps_set (i := 2) nd rfl (.inl rfl) pe_bl))))))))))
      (pss_cons (ps_if (pt_not (pt_val (pv 2))) (pss_one (ps_raise rfl (takes_of rfl rfl rfl rfl) (pmk_oex TM iC tI GI hr bI .nil (fun _ _ _ _ _ _ _ c => False.elim c) (by rfl) gC (pa_cons pe_int (pa_cons (pe_callB call_len_seq (by rfl) mlen PySem.boot_len (pa_cons (pv 0) pa_nil)) pa_nil))))) pss_nil)
      (pss_one (ps_ret (pv 1)))))), ?_⟩
    refine asg_go (lst_go (cons_any (lst_go ⟨Nat.zero_le _, fun b0 hb0 => ⟨by show 1 ≤ sizeLine; decide, fun A hA => ?_⟩⟩)))
    have e0 := Evl.Ex.new (o := .lst []) hb0
    have bA : b0 ≠ A := fun z => by rw [← z, upd_same] at hA; cases hA
    have w0 : Tw H (upd (upd H b0 (.lst [])) A (.lst [.ref b0])) A [b0] [[]] := ⟨e0.trans (Evl.Ex.new hA), upd_same, Evl.fresh_back e0 hA, rfl, by simp, fun i a ns p q => by
      cases i with
      | zero =>
        cases p
        cases q
        exact ⟨bA, hb0, by rw [upd_ne bA, upd_same]; rfl⟩
      | succ i => simp at p⟩
    generalize upd (upd H b0 (.lst [])) A (.lst [.ref b0]) = H1 at w0
    refine asg2_go ?_
    have hn : (its.map V.str).length = its.length := List.length_map ..
    obtain ⟨pa, hpa⟩ : ∃ pa, parse its = pa := ⟨_, rfl⟩
    rw [hpa] at hno hyes
    refine q_forB (B := H) (eb_enum (Evl.ea_cons (Evl.ev_var (i := 0) rfl) Evl.ea_nil) hl) aims_enum w0.ex
      (fun j σ' H' => ∃ done row b c as y4 y5 y6, σ' = [some (.ref l), some (.ref A), some (.bl b), some (.bl c), y4, y5, y6] ∧ Tw H H' A as (done ++ [row]) ∧ par (its.drop j) j done row b c = pa ∧ done.length ≤ j ∧ row.length ≤ j)
      (fun H2 e2 => ⟨[], [], false, false, [b0], _, _, _, rfl, w0.up e2, hpa, Nat.le_refl _, Nat.le_refl _⟩) (fun j σ' H' _ ⟨_, _, _, _, _, _, _, _, _, w, _⟩ => w.ex) ?_ ?_
    · rintro j σ' H2 H3 hj ⟨done, row, b, c, as, y4, y5, y6, rfl, w, hp, l1, l2⟩ e3
      rw [hn] at hj
      have w3 := w.up e3
      have hx : its[j]? = some its[j] := List.getElem?_eq_getElem hj
      obtain ⟨asc, lx⟩ := hI.2 _ (List.getElem_mem hj)
      have hit := hI.1
      have ex : (its.map V.str).getD j .non = .str its[j] := by rw [List.getD_eq_getElem?_getD, List.getElem?_map, hx]; rfl
      rw [ex]
      rw [List.drop_eq_getElem_cons hj] at hp
      generalize its[j] = x at hp asc lx
      have tl : as.length = done.length + 1 := by rw [w.len, List.length_append]; rfl
      have eqs : ∀ t : Str, decide (V.str x = V.str t) = decide (x = t) := fun t => decide_eq_decide.mpr ⟨fun y => V.str.inj y, fun y => congrArg V.str y⟩
      have lenv : ∀ {σ : L2.St} {G : Hp}, σ[1]? = some (some (.ref A)) → Tw H G A as (done ++ [row]) → Evl.Ev (tCB (Evl.rLenS K) (tCons (tVar 1) tNil)) σ G (.int ((done.length + 1 : Nat) : Int)) := fun h w => Evl.ev_is (Evl.ev_len (Evl.ev_var h) (Evl.sq_of w.lst)) (by rw [List.length_map, tl])
      refine Evl.s_if (b := decide (x = "/") && (b && decide (done.length + 1 < 1000))) (Evl.et_and (Evl.et_is (Evl.et_test (Evl.ev_op (Evl.ev_var rfl) Evl.ev_c (Evl.rv_eq rfl))) (eqs "/")) fun _ => Evl.et_and (Evl.et_B (Evl.ev_var rfl)) fun _ => Evl.et_is (Evl.et_test (Evl.ev_op (lenv rfl w3) Evl.ev_c Evl.rv_I0)) (decide_eq_decide.mpr ⟨fun h => by omega, fun h => by omega⟩)) (fun hb H4 e4 => ?_) (fun hb H4 e4 => ?_)
      · -- a row is closed
        unfold par at hp
        rw [if_pos hb] at hp
        have w4 := w3.up e4
        refine ⟨.ref A, rfl, .inl ⟨rfl, _, Evl.sq_of w4.lst⟩, Nat.zero_le _, fun z hz => ⟨A, as.map V.ref, .ref z, rfl, rfl, ?_, by rw [List.length_map, sizeLine_eq]; omega, ?_⟩⟩
        · have zA : A ≠ z := fun e => by rw [← e, w4.lst] at hz; cases hz
          rw [upd_ne zA]
          exact w4.lst
        · dsimp only
          refine asg2_last ?_
          exact ⟨done ++ [row], [], false, false, as ++ [z], _, _, _, rfl, w4.app hz, hp, by rw [List.length_append, List.length_singleton]; omega, Nat.zero_le _⟩
      · unfold par at hp
        rw [if_neg (by rw [hb]; decide)] at hp
        have w4 := w3.up e4
        refine Evl.s_if (b := decide (x = "-") && !b) (Evl.et_and (Evl.et_is (Evl.et_test (Evl.ev_op (Evl.ev_var rfl) Evl.ev_c (Evl.rv_eq rfl))) (eqs "-")) fun _ => Evl.et_not (Evl.et_B (Evl.ev_var rfl))) (fun hb2 H5 e5 => ?_) (fun hb2 H5 e5 => ?_)
        · rw [if_pos hb2] at hp
          refine asg2_last ?_
          exact ⟨done, row, true, true, as, _, _, _, rfl, w4.up e5, hp, by omega, by omega⟩
        · rw [if_neg (by rw [hb2]; decide)] at hp
          have w5 := w4.up e5
          refine Evl.q_asg (v := numV (nm x)) (Evl.ev_call (Evl.ea_cons (Evl.ev_var rfl) (Evl.ea_cons Evl.ev_c (Evl.ea_cons Evl.ev_c Evl.ea_nil))) (spv_numberIn asc (by omega))) fun H6 e6 => ?_
          have w6 := w5.up e6
          obtain ⟨la, las, lat, lrow, lne⟩ := tw_last w6
          have lastv : ∀ {σ : L2.St} {G : Hp}, Evl.Ex H6 G → σ[1]? = some (some (.ref A)) → Evl.Ev (tOp (rIxL K) (tVar 1) (tUn (rU fun i => V.int (-i)) (tC (.int 1)))) σ G (.ref la) := fun e h => Evl.ev_op (Evl.ev_var h) (Evl.ev_un Evl.ev_c Evl.ru_neg) (Evl.rv_ixL (Evl.sq_of (e _ _ w6.lst)) lat)
          refine Evl.q_when (b := c || (decide (nm x = none) || (decide (nm x = some ((done.length + 1 : Nat) : Int)) || row.any fun p => decide (nm x = some p)))) (Evl.et_or (Evl.et_B (Evl.ev_var rfl)) fun _ => Evl.et_or (a := decide (nm x = none)) (fun G e Q' q' => ⟨numV (nm x), rfl, rfl, ?_⟩) fun hno => ?_) (fun hb3 H7 e7 => ?_) (fun hb3 H7 e7 => ?_)
          · have : decide (numV (nm x) = V.non) = decide (nm x = none) := by
              cases nm x with
              | none => rfl
              | some p => rfl
            exact ⟨_, rfl, by rw [this]; exact q' G (Evl.Ex.refl _)⟩
          · obtain ⟨p, hpx⟩ : ∃ p, nm x = some p := by
              cases e : nm x with
              | none => rw [e] at hno; cases hno
              | some p => exact ⟨p, rfl⟩
            rw [hpx]
            refine Evl.et_or (Evl.et_is (Evl.et_test (Evl.ev_op (x := .int p) (Evl.ev_var rfl) (lenv rfl w6) (Evl.rv_eq rfl))) (decide_eq_decide.mpr ⟨fun y => by rw [V.int.inj y], fun y => by rw [Option.some.inj y]⟩)) fun _ => Evl.et_is (Evl.et_test (Evl.ev_op (x := .int p) (Evl.ev_var rfl) (lastv (Evl.Ex.refl _) rfl) (Evl.rv_inL (neg := false) (Evl.sq_of lrow) rfl (flat_ints _)))) ?_
            show inV (.int p) (row.map V.int) = _
            rw [in_ints, Bool.eq_iff_iff, List.any_eq_true, decide_eq_true_eq]
            exact ⟨fun h => ⟨p, h, decide_eq_true rfl⟩, fun ⟨q, h1, h2⟩ => by rw [Option.some.inj (of_decide_eq_true h2)]; exact h1⟩
          · rw [if_pos hb3] at hp
            exact mkt_go (Evl.ea_cons Evl.ev_c (Evl.ea_cons (Evl.ev_var rfl) Evl.ea_nil)) (hno j hp.symm) (w6.up e7).ex
          · rw [if_neg (by rw [hb3]; decide)] at hp
            rw [Bool.or_eq_false_iff, Bool.or_eq_false_iff] at hb3
            obtain ⟨p, hpx⟩ : ∃ p, nm x = some p := by
              cases e : nm x with
              | none => exact absurd e (of_decide_eq_false hb3.2.1)
              | some p => exact ⟨p, rfl⟩
            rw [hpx] at hp
            refine (lastv e7 rfl) H7 (Evl.Ex.refl _) _ fun H8 e8 => ⟨.inl ⟨rfl, _, Evl.sq_of (e8 _ _ (e7 _ _ lrow))⟩, numV (nm x), rfl, la, row.map V.int, .int p, rfl, (by rw [hpx]; rfl), e8 _ _ (e7 _ _ lrow), by rw [List.length_map, sizeLine_eq]; omega, ?_⟩
            have w8 := ((w6.up e7).up e8).set (ns := row ++ [p]) las (by simp)
            rw [done_set, List.map_append] at w8
            dsimp only
            refine asg_last ?_
            exact ⟨done, row ++ [p], true, c, as, _, _, _, rfl, w8, hp, by omega, by rw [List.length_append, List.length_singleton]; omega⟩
    · rintro σ' H2 ⟨done, row, b, c, as, y4, y5, y6, rfl, w, hp, l1, l2⟩
      rw [hn, List.drop_length] at hp
      unfold par at hp
      refine Evl.q_when (b := !b) (Evl.et_not (Evl.et_B (Evl.ev_var rfl))) (fun hb H3 e3 => ?_) (fun hb H3 e3 => ?_)
      · rw [Bool.not_eq_true'] at hb
        rw [if_neg (by rw [hb]; decide)] at hp
        have w3 := w.up e3
        have hv : Evl.Ev (tCB (Evl.rLenS K) (tCons (tVar 0) tNil)) [some (.ref l), some (.ref A), some (.bl b), some (.bl c), y4, y5, y6] H3 (.int (its.length : Int)) := Evl.ev_is (Evl.ev_len (Evl.ev_var rfl) (Evl.ex_l w3.ex hl)) (by rw [hn])
        exact mkt_go (Evl.ea_cons Evl.ev_c (Evl.ea_cons hv Evl.ea_nil)) (hno its.length hp.symm) w3.ex
      · rw [Bool.not_eq_false'] at hb
        rw [if_pos hb] at hp
        exact Evl.s_ret (v := .ref A) (Evl.ev_var rfl) fun H4 e4 => hyes _ hp.symm A as H4 ((w.up e3).up e4)
end
end P04
end S_Qz
section S_Ub
namespace P04
open PySem PySem.Spec PyProof.Rows L2 Tl Hk LamX EnL TL
/-! ### the items of turns -/
abbrev tI (i : Int) : Str := Str.ofString (toString i)
def rowIts (ns : List Int) : List Str := if ns.isEmpty = true then ["-"] else ns.map tI
def tailIts (ts : List (List Int)) : List Str := ts.flatMap fun r => "/" :: rowIts r
def itemsOf : List (List Int) → List Str
  | [] => []
  | r :: rs => rowIts r ++ tailIts rs
/-- what a good parse tells of its turns -/
structure GoodT (ts : List (List Int)) : Prop where
  pos : 1 ≤ ts.length
  most : ts.length ≤ 1000
  pl : ∀ (i : Nat) (ns : List Int), ts[i]? = some ns → ns.Nodup ∧ (∀ x ∈ ns, 1 ≤ x ∧ x ≤ 1000) ∧ ((i : Int) + 1) ∉ ns
theorem tI_nat {n : Nat} : tI (n : Int) = dS n := rfl
theorem nm_tI {i : Int} (h1 : 1 ≤ i) (h2 : i ≤ 1000) : nm (tI i) = some i := by
  have := nm_dS i.toNat (by omega) (by omega)
  rw [show ((i.toNat : Nat) : Int) = i by omega] at this
  rw [← this, ← tI_nat, show ((i.toNat : Nat) : Int) = i by omega]
theorem nm_sl : nm "/" = none := by decide +kernel
theorem nm_mi : nm "-" = none := by decide +kernel
theorem tI_ne {i : Int} (h1 : 1 ≤ i) (h2 : i ≤ 1000) : tI i ≠ "/" ∧ tI i ≠ "-" := by
  have := nm_tI h1 h2
  exact ⟨(fun e => by rw [e, nm_sl] at this; cases this), (fun e => by rw [e, nm_mi] at this; cases this)⟩
/-! ### what is read of the items is the turns -/
theorem par_num {x : Str} {r : List Str} {i : Nat} {done : List (List Int)} {row : List Int} {b : Bool} {p : Int} (hp1 : 1 ≤ p) (hp2 : p ≤ 1000) (hx : x = tI p) (h1 : p ≠ ((done.length + 1 : Nat) : Int)) (h2 : p ∉ row) : par (x :: r) i done row b false = par r (i + 1) done (row ++ [p]) true false := by
  obtain ⟨n1, n2⟩ := tI_ne hp1 hp2
  have hn := nm_tI hp1 hp2
  subst hx
  conv => lhs; unfold par
  rw [decide_eq_false n1, decide_eq_false n2, hn]
  rw [if_neg (by simp), if_neg (by simp), if_neg]
  · rfl
  · rw [Bool.not_eq_true, Bool.or_eq_false_iff, Bool.or_eq_false_iff, Bool.or_eq_false_iff]
    refine ⟨rfl, rfl, decide_eq_false fun e => h1 (Option.some.inj e), ?_⟩
    rw [List.any_eq_false]
    intro q hq e
    exact h2 (by rw [Option.some.inj (of_decide_eq_true e)]; exact hq)
theorem par_nums : ∀ (ns : List Int) {rest : List Str} {i : Nat} {done : List (List Int)} {row : List Int} {b : Bool}, (∀ x ∈ ns, 1 ≤ x ∧ x ≤ 1000) → (row ++ ns).Nodup → ((done.length + 1 : Nat) : Int) ∉ ns →
    (b = true ∨ ns ≠ []) → par (ns.map tI ++ rest) i done row b false = par rest (i + ns.length) done (row ++ ns) true false
  | [], rest, i, done, row, b, _, _, _, hb => by
    rcases hb with rfl | h
    · rw [List.append_nil]; rfl
    · exact absurd rfl h
  | p :: ns, rest, i, done, row, b, h1, h2, h3, _ => by
    have e : (p :: ns).map tI ++ rest = tI p :: (ns.map tI ++ rest) := rfl
    rw [e, par_num (h1 p List.mem_cons_self).1 (h1 p List.mem_cons_self).2 rfl (fun z => h3 (by rw [← z]; exact List.mem_cons_self)) (fun hm => by
      have := List.nodup_append.mp h2
      exact this.2.2 p hm p List.mem_cons_self rfl)]
    rw [par_nums ns (fun x hx => h1 x (List.mem_cons_of_mem _ hx)) (by rw [List.append_assoc]; exact h2) (fun hm => h3 (List.mem_cons_of_mem _ hm)) (.inl rfl)]
    rw [List.append_assoc, List.length_cons]
    congr 1
    omega
theorem par_row (ns : List Int) {rest : List Str} {i : Nat} {done : List (List Int)} (h1 : ∀ x ∈ ns, 1 ≤ x ∧ x ≤ 1000) (h2 : ns.Nodup) (h3 : ((done.length + 1 : Nat) : Int) ∉ ns) :
    par (rowIts ns ++ rest) i done [] false false = par rest (i + (rowIts ns).length) done ns true ns.isEmpty := by
  cases ns with
  | nil =>
    show par ("-" :: rest) i done [] false false = _
    conv => lhs; unfold par
    rw [if_neg (by rw [Bool.false_and, Bool.and_false]; decide), if_pos (by decide)]
    rfl
  | cons p ns =>
    have := par_nums (p :: ns) (rest := rest) (i := i) (done := done) (row := []) (b := false) h1 h2 h3 (.inr (by simp))
    rw [List.nil_append] at this
    have e : rowIts (p :: ns) = (p :: ns).map tI := rfl
    rw [e, this, List.length_map]
    rfl
theorem par_tail : ∀ (ts : List (List Int)) {i : Nat} {done : List (List Int)} {row : List Int} {c : Bool}, (∀ (k : Nat) (ns : List Int), ts[k]? = some ns → ns.Nodup ∧ (∀ x ∈ ns, 1 ≤ x ∧ x ≤ 1000) ∧ ((done.length + 1 + k + 1 : Nat) : Int) ∉ ns) → done.length + 1 + ts.length ≤ 1000 →
    par (tailIts ts) i done row true c = .ok (done ++ row :: ts)
  | [], i, done, row, c, _, _ => rfl
  | ns :: ts, i, done, row, c, h, hl => by
    obtain ⟨a1, a2, a3⟩ := h 0 ns rfl
    rw [List.length_cons] at hl
    have e : tailIts (ns :: ts) = ("/" : Str) :: (rowIts ns ++ tailIts ts) := rfl
    rw [e]
    conv => lhs; unfold par
    rw [if_pos (by rw [decide_eq_true (show done.length + 1 < 1000 by omega)]; decide)]
    rw [par_row ns a2 a1 (by rw [List.length_append, List.length_singleton]; exact a3)]
    rw [par_tail ts (fun k ms hk => by
      have := h (k + 1) ms hk
      rw [List.length_append, List.length_singleton]
      rw [show done.length + 1 + 1 + k + 1 = done.length + 1 + (k + 1) + 1 by omega]
      exact this) (by rw [List.length_append, List.length_singleton]; omega)]
    rw [List.append_assoc]
    rfl
theorem parse_of {ts : List (List Int)} (h : GoodT ts) : parse (itemsOf ts) = .ok ts := by
  cases ts with
  | nil => exact absurd h.pos (by decide)
  | cons r rs =>
    obtain ⟨a1, a2, a3⟩ := h.pl 0 r rfl
    have hm := h.most
    rw [List.length_cons] at hm
    show par (rowIts r ++ tailIts rs) 0 [] [] false false = _
    rw [par_row r a2 a1 (by simpa using a3)]
    exact par_tail rs (fun k ms hk => by
      have := h.pl (k + 1) ms hk
      refine ⟨this.1, this.2.1, ?_⟩
      rw [show (([] : List (List Int)).length + 1 + k + 1 : Nat) = (k + 1) + 1 by simp; omega]
      exact_mod_cast this.2.2) (by simp; omega)
/-! ### the turns read are those of the items alone -/
theorem par_back : ∀ (its : List Str) {i : Nat} {done : List (List Int)} {row : List Int} {b c : Bool} {ts : List (List Int)}, (∀ s ∈ its, Asc s) → par its i done row b c = .ok ts → (b = false → row = [] ∧ c = false) → (c = true → row = []) → done.length + 1 ≤ 1000 →
    row.Nodup → (∀ x ∈ row, 1 ≤ x ∧ x ≤ 1000) → ((done.length + 1 : Nat) : Int) ∉ row →
    ∃ row2 more, ts = done ++ (row ++ row2) :: more ∧ its = (if b = true then row2.map tI else rowIts row2) ++ tailIts more ∧ (c = true → row2 = []) ∧ done.length + 1 + more.length ≤ 1000 ∧ (row ++ row2).Nodup ∧ (∀ x ∈ row2, 1 ≤ x ∧ x ≤ 1000) ∧ ((done.length + 1 : Nat) : Int) ∉ row2 ∧
      ∀ (k : Nat) (ns : List Int), more[k]? = some ns → ns.Nodup ∧ (∀ x ∈ ns, 1 ≤ x ∧ x ≤ 1000) ∧ ((done.length + 1 + k + 1 : Nat) : Int) ∉ ns := by
  intro its
  induction its with
  | nil =>
    intro i done row b c ts _ h hb hc hl n1 n2 n3
    unfold par at h
    cases b with
    | false => rw [if_neg (by decide)] at h; cases h
    | true =>
      rw [if_pos rfl] at h
      cases h
      exact ⟨[], [], by rw [List.append_nil], rfl, fun _ => rfl, by simpa using hl, by rw [List.append_nil]; exact n1, (fun x hx => nomatch hx), (fun hm => nomatch hm), fun k ns hk => by simp at hk⟩
  | cons x r ih =>
    intro i done row b c ts ha h hb hc hl n1 n2 n3
    unfold par at h
    have ha' : ∀ s ∈ r, Asc s := fun s hs => ha s (List.mem_cons_of_mem _ hs)
    by_cases c1 : (decide (x = "/") && (b && decide (done.length + 1 < 1000))) = true
    · rw [if_pos c1] at h
      rw [Bool.and_eq_true_iff, Bool.and_eq_true_iff] at c1
      obtain ⟨d1, d2, d3⟩ := c1
      have d1 := of_decide_eq_true d1
      have d3 := of_decide_eq_true d3
      subst d1
      subst d2
      obtain ⟨row2, more, e1, e2, _, e4, e5, e6, e7, e8⟩ := ih (done := done ++ [row]) (row := []) (b := false) (c := false) ha' h (fun _ => ⟨rfl, rfl⟩) (fun z => nomatch z) (by rw [List.length_append, List.length_singleton]; omega) List.nodup_nil (fun x hx => nomatch hx) (fun hm => nomatch hm)
      rw [List.length_append, List.length_singleton] at e4 e7 e8
      rw [List.nil_append] at e1 e5
      rw [if_neg (by decide)] at e2
      refine ⟨[], row2 :: more, by rw [e1, List.append_nil, List.append_assoc]; rfl, by rw [if_pos rfl, e2]; rfl, fun _ => rfl, by rw [List.length_cons]; omega, by rw [List.append_nil]; exact n1, (fun x hx => nomatch hx), (fun hm => nomatch hm), fun k ns hk => ?_⟩
      cases k with
      | zero =>
        cases hk
        exact ⟨e5, e6, e7⟩
      | succ k =>
        have := e8 k ns (by simpa using hk)
        rw [show done.length + 1 + 1 + k + 1 = done.length + 1 + (k + 1) + 1 by omega] at this
        exact this
    rw [if_neg c1] at h
    by_cases c2 : (decide (x = "-") && !b) = true
    · rw [if_pos c2] at h
      rw [Bool.and_eq_true_iff, Bool.not_eq_true'] at c2
      obtain ⟨d1, d2⟩ := c2
      have d1 := of_decide_eq_true d1
      subst d1
      subst d2
      obtain ⟨rfl, _⟩ := hb rfl
      obtain ⟨row2, more, e1, e2, e3, e4, e5, e6, e7, e8⟩ := ih (b := true) (c := true) ha' h (fun z => nomatch z) (fun _ => rfl) hl n1 n2 n3
      obtain rfl := e3 rfl
      rw [if_pos rfl] at e2
      exact ⟨[], more, e1, by rw [if_neg (by decide), e2]; rfl, fun _ => rfl, e4, e5, e6, e7, e8⟩
    rw [if_neg c2] at h
    by_cases c3 : (c || (decide (nm x = none) || (decide (nm x = some ((done.length + 1 : Nat) : Int)) || row.any fun p => decide (nm x = some p)))) = true
    · rw [if_pos c3] at h
      cases h
    rw [if_neg c3] at h
    rw [Bool.not_eq_true, Bool.or_eq_false_iff, Bool.or_eq_false_iff, Bool.or_eq_false_iff] at c3
    obtain ⟨d1, d2, d3, d4⟩ := c3
    subst d1
    have d2 := of_decide_eq_false d2
    have d3' := of_decide_eq_false d3
    clear d3
    obtain ⟨p, hp⟩ : ∃ p, nm x = some p := by
      cases e : nm x with
      | none => exact absurd e d2
      | some p => exact ⟨p, rfl⟩
    rw [hp] at h d3' d4
    obtain ⟨n, rfl, rfl, m1, m2⟩ := nm_some (ha x List.mem_cons_self) hp
    have pr : (n : Int) ∉ row := fun hm => by
      have := (List.any_eq_false.mp d4) _ hm
      exact this (decide_eq_true rfl)
    obtain ⟨row2, more, e1, e2, e3, e4, e5, e6, e7, e8⟩ := ih (row := row ++ [(n : Int)]) (b := true) (c := false) ha' h (fun z => nomatch z) (fun z => nomatch z) hl (by
      rw [List.nodup_append]
      refine ⟨n1, by simp, fun a ha b hb e => ?_⟩
      rw [List.mem_singleton.mp hb] at e
      exact pr (e ▸ ha)) (fun y hy => by
      rcases List.mem_append.mp hy with hy | hy
      · exact n2 y hy
      · rw [List.mem_singleton.mp hy]; omega) (fun hm => by
      rcases List.mem_append.mp hm with hm | hm
      · exact n3 hm
      · exact d3' (by rw [List.mem_singleton.mp hm]))
    rw [if_pos rfl] at e2
    refine ⟨(n : Int) :: row2, more, by rw [e1, List.append_assoc]; rfl, ?_, (fun z => nomatch z), e4, by rw [List.append_assoc] at e5; exact e5, fun y hy => ?_, fun hm => ?_, e8⟩
    · rw [e2]
      cases b with
      | true => rfl
      | false => rfl
    · rcases List.mem_cons.mp hy with rfl | hy
      · omega
      · exact e6 y hy
    · rcases List.mem_cons.mp hm with e | hm
      · exact d3' (by rw [e])
      · exact e7 hm
theorem parse_back {its : List Str} {ts : List (List Int)} (ha : ∀ s ∈ its, Asc s) (h : parse its = .ok ts) : its = itemsOf ts ∧ GoodT ts := by
  obtain ⟨row2, more, e1, e2, _, e4, e5, e6, e7, e8⟩ := par_back its ha h (fun _ => ⟨rfl, rfl⟩) (fun z => nomatch z) (by decide) List.nodup_nil (fun x hx => nomatch hx) (fun hm => nomatch hm)
  rw [if_neg (by decide)] at e2
  rw [List.nil_append, List.nil_append] at e1
  rw [List.nil_append] at e5
  subst e1
  refine ⟨e2, by rw [List.length_cons]; omega, by rw [List.length_cons]; simp at e4; omega, fun i ns hi => ?_⟩
  cases i with
  | zero =>
    cases hi
    exact ⟨e5, e6, by simpa using e7⟩
  | succ i =>
    have := e8 i ns (by simpa using hi)
    refine ⟨this.1, this.2.1, ?_⟩
    have h3 := this.2.2
    rw [show (([] : List (List Int)).length + 1 + i + 1 : Nat) = (i + 1) + 1 by simp; omega] at h3
    exact_mod_cast h3
end P04
end S_Ub
section S_Uc
namespace P04
open PySem PySem.Spec PyProof.Rows L2 Tl Hk LamX EnL TL
/-! ### texts -/
def textOf (ts : List (List Int)) : Str := Txt.join " / " (ts.map ttx)
theorem joinL_app {S : List Nat} : ∀ {a b : List (List Nat)}, a ≠ [] → b ≠ [] → joinL S (a ++ b) = joinL S a ++ (S ++ joinL S b)
  | [], b, h, _ => absurd rfl h
  | [p], [], _, h => absurd rfl h
  | [p], q :: r, _, _ => rfl
  | p :: q :: r, b, _, hb => by
    show p ++ (S ++ joinL S (q :: r ++ b)) = (p ++ (S ++ joinL S (q :: r))) ++ (S ++ joinL S b)
    rw [joinL_app (by simp) hb]
    simp [List.append_assoc]
theorem tl_J (y : Str) (parts : List Str) : tl (Txt.join y parts) = joinL (tl y) (parts.map tl) := by rw [TL.join_eq, TL.tl_join]
theorem tl_sp : tl (" " : Str) = [32] := by decide +kernel
theorem tl_sl : tl ("/" : Str) = [47] := by decide +kernel
theorem tl_ssl : tl (" / " : Str) = [32, 47, 32] := by decide +kernel
theorem rowIts_ne (ns : List Int) : rowIts ns ≠ [] := by
  cases ns with
  | nil => exact List.cons_ne_nil _ _
  | cons p r => exact List.cons_ne_nil _ _
theorem ttx_its (ns : List Int) : ttx ns = Txt.join " " (rowIts ns) := by
  cases ns with
  | nil => exact ext_tl (by rw [tl_J]; rfl)
  | cons p r => rfl
theorem text_tl : ∀ {ts : List (List Int)}, ts ≠ [] → tl (textOf ts) = tl (Txt.join " " (itemsOf ts))
  | [], h => absurd rfl h
  | [r], _ => by
    show tl (Txt.join " / " [ttx r]) = tl (Txt.join " " (rowIts r ++ []))
    rw [List.append_nil, ← ttx_its, tl_J]
    rfl
  | r :: r2 :: rs, _ => by
    have ih := text_tl (ts := r2 :: rs) (by simp)
    have e1 : tl (textOf (r :: r2 :: rs)) = tl (ttx r) ++ (tl " / " ++ tl (textOf (r2 :: rs))) := by
      unfold textOf
      rw [tl_J, tl_J]
      rfl
    have e2 : itemsOf (r :: r2 :: rs) = rowIts r ++ (("/" : Str) :: itemsOf (r2 :: rs)) := rfl
    have ne : (itemsOf (r2 :: rs)).map tl ≠ [] := by
      show (rowIts r2 ++ tailIts rs).map tl ≠ []
      rw [List.map_append]
      intro h
      exact rowIts_ne r2 (List.map_eq_nil_iff.mp (List.append_eq_nil_iff.mp h).1)
    rw [e1, ih, e2, tl_J, tl_J, List.map_append, joinL_app (fun h => rowIts_ne r (List.map_eq_nil_iff.mp h)) (by simp), ttx_its, tl_J, tl_ssl, tl_sp]
    congr 1
    show [32, 47, 32] ++ _ = [32] ++ joinL [32] (tl "/" :: (itemsOf (r2 :: rs)).map tl)
    rw [tl_sl]
    cases h : (itemsOf (r2 :: rs)).map tl with
    | nil => exact absurd h ne
    | cons a b => rfl
theorem text_its {ts : List (List Int)} (h : ts ≠ []) : textOf ts = Txt.join " " (itemsOf ts) := ext_tl (text_tl h)
/-! ### signs -/
theorem mem_joinL {S : List Nat} : ∀ {parts : List (List Nat)} {c : Nat}, c ∈ joinL S parts → c ∈ S ∨ ∃ p ∈ parts, c ∈ p
  | [], c, h => nomatch h
  | [p], c, h => .inr ⟨p, List.mem_singleton.mpr rfl, h⟩
  | p :: q :: r, c, h => by
    have h : c ∈ p ++ (S ++ joinL S (q :: r)) := h
    rcases List.mem_append.mp h with h | h
    · exact .inr ⟨p, List.mem_cons_self, h⟩
    · rcases List.mem_append.mp h with h | h
      · exact .inl h
      · rcases mem_joinL h with h | ⟨z, h1, h2⟩
        · exact .inl h
        · exact .inr ⟨z, List.mem_cons_of_mem _ h1, h2⟩
theorem joinL_mem {S : List Nat} : ∀ {parts : List (List Nat)} {p : List Nat} {c : Nat}, p ∈ parts → c ∈ p → c ∈ joinL S parts
  | [], p, c, h, _ => nomatch h
  | [q], p, c, h, hc => by
    rw [List.mem_singleton.mp h] at hc
    exact hc
  | q :: z :: r, p, c, h, hc => by
    show c ∈ q ++ (S ++ joinL S (z :: r))
    rcases List.mem_cons.mp h with rfl | h
    · exact List.mem_append_left _ hc
    · exact List.mem_append_right _ (List.mem_append_right _ (joinL_mem h hc))
theorem asc_join {y : Str} {parts : List Str} (hy : Asc y) (h : ∀ p ∈ parts, Asc p) : Asc (Txt.join y parts) := fun c hc => by
  rw [tl_J] at hc
  rcases mem_joinL hc with hc | ⟨p, h1, h2⟩
  · exact hy c hc
  · obtain ⟨s, hs, rfl⟩ := List.mem_map.mp h1
    exact h s hs c h2
theorem join_back (s : Str) : Txt.join " " (Txt.split s " ") = s := by rw [TL.join_eq]; exact StrLaws.join_split s " "
theorem asc_split {s : Str} (h : Asc s) : ∀ p ∈ Txt.split s " ", Asc p := fun p hp c hc => by
  refine h c ?_
  rw [← join_back s, tl_J]
  exact joinL_mem (List.mem_map.mpr ⟨p, hp, rfl⟩) hc
theorem split_ne (s : Str) : Txt.split s " " ≠ [] := fun h => by
  have := TL.split_spl s " " (by rw [tl_sp]; simp) (kind_ok (by decide +kernel))
  rw [h, tl_sp] at this
  have hh : ∀ (l acc : List Nat), spl [32] 0 acc l ≠ [] := by
    intro l
    induction l with
    | nil => intro acc z; rw [spl_nil] at z; cases z
    | cons c r ih =>
      intro acc z
      cases e : pre [32] (c :: r) with
      | true => rw [spl_hit e] at z; cases z
      | false => rw [spl_miss e] at z; exact ih _ z
  exact hh _ _ this.symm
/-- lengths of items and their number -/
def wt (its : List Str) : Nat := (its.map (·.length)).sum + its.length
theorem wt_split (s : Str) : wt (Txt.split s " ") ≤ s.length + 1 := split_weight s " " (by decide)
theorem wt_join (its : List Str) : (Txt.join " " its).length ≤ wt its := by
  have := StrLaws.join_length_le " " its
  rw [TL.join_eq]
  unfold wt
  rw [show (" " : Str).length = 1 by decide] at this
  omega
theorem wt_app (a b : List Str) : wt (a ++ b) = wt a + wt b := by
  unfold wt
  rw [List.map_append, List.sum_append, List.length_append]
  omega
theorem wt_cons (x : Str) (r : List Str) : wt (x :: r) = x.length + 1 + wt r := by
  unfold wt
  rw [List.map_cons, List.sum_cons, List.length_cons]
  omega
theorem wt_take (its : List Str) (n : Nat) : wt (its.take n) ≤ wt its := by
  have := wt_app (its.take n) (its.drop n)
  rw [List.take_append_drop] at this
  omega
theorem wt_drop (its : List Str) (n : Nat) : wt (its.drop n) ≤ wt its := by
  have := wt_app (its.take n) (its.drop n)
  rw [List.take_append_drop] at this
  omega
theorem wt_mem {its : List Str} {s : Str} (h : s ∈ its) : s.length + 1 ≤ wt its := by
  obtain ⟨a, b, rfl⟩ := List.append_of_mem h
  rw [wt_app, wt_cons]
  omega
theorem wt_len (its : List Str) : its.length ≤ wt its := Nat.le_add_left _ _
/-- a text that may be read -/
structure Tx (s : Str) : Prop where
  asc : Asc s
  len : s.length ≤ 20000
theorem Tx.its {s : Str} (h : Tx s) : Its (Txt.split s " ") := by
  have h1 := wt_split s
  have h2 := h.len
  refine ⟨by have := wt_len (Txt.split s " "); omega, fun p hp => ⟨asc_split h.asc p hp, by have := wt_mem hp; omega⟩⟩
/-! ### turns that were drawn -/
theorem OkT.good {ts : List (List Int)} (h : OkT ts) : GoodT ts := ⟨h.pos, h.most, fun i ns hi => by
  obtain ⟨a, b, c⟩ := h.pl i ns hi
  exact ⟨a, fun x hx => by have := b x hx; have := h.most; omega, c⟩⟩
theorem no32 {ts : List (List Int)} (h : ∀ ns ∈ ts, ∀ x ∈ ns, 1 ≤ x) : ∀ p ∈ itemsOf ts, 32 ∉ tl p ∧ Asc p := by
  have one : ∀ ns : List Int, (∀ x ∈ ns, 1 ≤ x) → ∀ p ∈ rowIts ns, 32 ∉ tl p ∧ Asc p := fun ns hn p hp => by
    unfold rowIts at hp
    split at hp
    · rw [List.mem_singleton.mp hp]
      exact ⟨by decide +kernel, by unfold Asc; decide +kernel⟩
    · obtain ⟨x, hx, rfl⟩ := List.mem_map.mp hp
      have h1 := hn x hx
      have : tI x = dS x.toNat := by rw [← tI_nat, show ((x.toNat : Nat) : Int) = x by omega]
      rw [this]
      have hd := (dS_digits x.toNat).1
      exact ⟨fun hm => by have := hd 32 hm; omega, asc_digits hd⟩
  have tail : ∀ ts : List (List Int), (∀ ns ∈ ts, ∀ x ∈ ns, 1 ≤ x) → ∀ p ∈ tailIts ts, 32 ∉ tl p ∧ Asc p := fun ts h p hp => by
    obtain ⟨ns, hn, hp⟩ := List.mem_flatMap.mp hp
    rcases List.mem_cons.mp hp with rfl | hp
    · exact ⟨by decide +kernel, by unfold Asc; decide +kernel⟩
    · exact one ns (h ns hn) p hp
  cases ts with
  | nil => exact fun p hp => nomatch hp
  | cons r rs =>
    intro p hp
    rcases List.mem_append.mp hp with hp | hp
    · exact one r (h r List.mem_cons_self) p hp
    · exact tail rs (fun ns hn => h ns (List.mem_cons_of_mem _ hn)) p hp
theorem itemsOf_ne {ts : List (List Int)} (h : ts ≠ []) : itemsOf ts ≠ [] := by
  cases ts with
  | nil => exact absurd rfl h
  | cons r rs => exact fun z => rowIts_ne r (List.append_eq_nil_iff.mp z).1
theorem split_text {ts : List (List Int)} (h : GoodT ts) : Txt.split (textOf ts) " " = itemsOf ts := by
  have hne : ts ≠ [] := fun z => by have := h.pos; rw [z] at this; exact absurd this (by decide)
  rw [text_its hne]
  refine TL.split_join tl_sp (by decide +kernel) (itemsOf_ne hne) fun p hp => (no32 (fun ns hn x hx => ?_) p hp).1
  obtain ⟨i, hi⟩ := List.mem_iff_getElem?.mp hn
  exact ((h.pl i ns hi).2.1 x hx).1
/-- the text that is read back is the text of what was read -/
theorem text_back {s : Str} {ts : List (List Int)} (ha : Asc s) (h : parse (Txt.split s " ") = .ok ts) : textOf ts = s ∧ GoodT ts := by
  obtain ⟨e, g⟩ := parse_back (asc_split ha) h
  have hne : ts ≠ [] := fun z => by have := g.pos; rw [z] at this; exact absurd this (by decide)
  exact ⟨by rw [text_its hne, ← e, join_back], g⟩
theorem parse_text {ts : List (List Int)} (h : GoodT ts) : parse (Txt.split (textOf ts) " ") = .ok ts := by rw [split_text h, parse_of h]
theorem sum_its : ∀ ts : List (List Int), (ts.map List.length).sum ≤ (tailIts ts).length
  | [] => Nat.le_refl _
  | r :: rs => by
    have := sum_its rs
    have e : tailIts (r :: rs) = (("/" : Str) :: rowIts r) ++ tailIts rs := rfl
    rw [e, List.map_cons, List.sum_cons, List.length_append, List.length_cons]
    have : r.length ≤ (rowIts r).length := by
      cases r with
      | nil => exact Nat.zero_le _
      | cons p q => rw [show rowIts (p :: q) = (p :: q).map tI from rfl, List.length_map] <;> exact Nat.le_refl _
    omega
theorem sum_items {ts : List (List Int)} : (ts.map List.length).sum ≤ (itemsOf ts).length := by
  cases ts with
  | nil => exact Nat.le_refl _
  | cons r rs =>
    have h1 := sum_its rs
    show _ ≤ (rowIts r ++ tailIts rs).length
    rw [List.map_cons, List.sum_cons, List.length_append]
    have : r.length ≤ (rowIts r).length := by
      cases r with
      | nil => exact Nat.zero_le _
      | cons p q => rw [show rowIts (p :: q) = (p :: q).map tI from rfl, List.length_map] <;> exact Nat.le_refl _
    omega
end P04
end S_Uc
section S_Ud
namespace P04
open PySem PySem.Spec PyProof.Rows L2 Tl Hk LamX EnL TL
def isStrV : V → Bool
  | .str _ => true
  | _ => false
theorem rc_str {K : PySem.W.Frag} {H : Hp} {x : V} {n : String} (h : Ty7 K H x n) : Evl.RC (rIsi K) [x, .ty "str"] H (.bl (isStrV x)) := fun H1 e Q q => by
  have hk : PySem.W.kitOne K (.type n) (.type "str") = some (isStrV x) := by
    refine kit_ty ?_
    cases h <;> first | (show _ = some true; decide +kernel) | (show _ = some false; decide +kernel)
  exact ⟨x, .ty "str", .type n, .type "str", isStrV x, rfl, .ty _, (h.ex e).tyx, hk, q H1 (Evl.Ex.refl H1)⟩
/-- a value that may be a text -/
inductive TxtV (K : PySem.W.Frag) (H : Hp) : V → Option Str → Prop where
  | no {x : V} {n : String} (h : Ty7 K H x n) (hn : isStrV x = false) : TxtV K H x none
  | yes {s : Str} (h : Tx s) : TxtV K H (.str s) (some s)
theorem TxtV.ex {K : PySem.W.Frag} {H H' : Hp} {x : V} {o : Option Str} (h : TxtV K H x o) (e : Evl.Ex H H') : TxtV K H' x o := by
  cases h with
  | no h hn => exact .no (h.ex e) hn
  | yes h => exact .yes h
theorem TxtV.isStr {K : PySem.W.Frag} {H : Hp} {x : V} {o : Option Str} (h : TxtV K H x o) : Evl.RC (rIsi K) [x, .ty "str"] H (.bl o.isSome) := by
  cases h with
  | no h hn => have := rc_str h; rwa [hn] at this
  | yes h => exact rc_str (.str _)
/-- what is read of items -/
inductive Rd (its : List Str) : Except Nat (List (List Int)) → Prop where
  | err {i : Nat} (h : parse its = .error i) : Rd its (.error i)
  | bad {ts : List (List Int)} (h : parse its = .ok ts) (hn : ¬OkT ts) : Rd its (.error (its.length - 1))
  | ok {ts : List (List Int)} (h : parse its = .ok ts) (hT : OkT ts) : Rd its (.ok ts)
theorem Rd.ex (its : List Str) : ∃ r, Rd its r := by
  cases h : parse its with
  | error i => exact ⟨_, .err h⟩
  | ok ts =>
    by_cases hT : OkT ts
    · exact ⟨_, .ok h hT⟩
    · exact ⟨_, .bad h hT⟩
theorem Rd.uniq {its : List Str} {r q : Except Nat (List (List Int))} (h1 : Rd its r) (h2 : Rd its q) : r = q := by
  cases h1 with
  | err h =>
    cases h2 with
    | err h' => rw [h] at h'; cases h'; rfl
    | bad h' _ => rw [h] at h'; cases h'
    | ok h' _ => rw [h] at h'; cases h'
  | bad h hn =>
    cases h2 with
    | err h' => rw [h] at h'; cases h'
    | bad h' _ => rfl
    | ok h' hT => rw [h] at h'; cases h'; exact absurd hT hn
  | ok h hT =>
    cases h2 with
    | err h' => rw [h] at h'; cases h'
    | bad h' hn => rw [h] at h'; cases h'; exact absurd hT hn
    | ok h' _ => rw [h] at h'; cases h'; rfl
def spItems (K : PySem.W.Frag) (CT : Addr) : Sp := fun vs H Q E => ∃ (v : V) (o : Option Str), vs = [v] ∧ TxtV K H v o ∧ (o = none → RzT CT H E 0) ∧ (∀ s, o = some s → ∀ l H1, Evl.Ex H H1 → H1 l = some (.lst ((Txt.split s " ").map V.str)) → Q (.ref l) H1)
def spRead (K : PySem.W.Frag) (C CT : Addr) : Sp := fun vs H Q E => ∃ (v : V) (o : Option Str), vs = [v] ∧ TxtV K H v o ∧ (o = none → RzT CT H E 0) ∧ (∀ s, o = some s → (∀ i, Rd (Txt.split s " ") (.error i) → RzT CT H E i) ∧ (∀ ts, Rd (Txt.split s " ") (.ok ts) → ∀ x H1, Evl.Ex H H1 → WebAt C H1 x ts → Q (.ref x) H1))
theorem scItemsOf : FnScope ["text"] ["text"] (defScope sItemsOf) := ⟨rfl, rfl, rfl, by decide +kernel, rfl, by decide +kernel, by decide +kernel⟩
abbrev sRead : Stmt := inClass sWeb 3
abbrev nRead : List Str := ["text", "items", "turns"]
theorem scRead : FnScope nRead ["text"] (defScope sRead) := ⟨rfl, rfl, rfl, by decide +kernel, rfl, by decide +kernel, by decide +kernel⟩
theorem RzT.ex {C : Addr} {H H' : Hp} {E : XK} {i : Nat} (h : RzT C H E i) (e : Evl.Ex H H') : RzT C H' E i := fun H1 d e1 hd => h H1 d (e.trans e1) hd
theorem callS_go {sp : Sp} {vs : List V} {E : L2.St → XK} {ta : TA} {σ : L2.St} {H : Hp} {Q : VK} (h : Evl.EvA ta σ H vs) (k : ∀ H1, Evl.Ex H H1 → sp vs H1 Q (E σ)) : tCallS sp E ta σ H Q := h H (Evl.Ex.refl H) _ k
/-- rows of a new list of lists, for who asks whether they are turns -/
theorem _root_.EnL.Tw.turns {K : PySem.W.Frag} {H0 H : Hp} {A : Addr} {as : List Addr} {ts : List (List Int)} (w : Tw H0 H A as ts) (g : GoodT ts) (hs : (ts.map List.length).sum ≤ 30000) : TurnsD K H (.ref A) (some (valsOf ts)) := by
  have hlen : (valsOf ts).length = ts.length := List.length_map ..
  have hl := w.len
  have gm := g.most
  refine .seq (.inl w.lst) (by rw [List.length_map]; omega) (by rw [List.length_map]; omega) (fun i v r hv hr => ?_) ?_
  · rw [List.getElem?_map] at hv
    obtain ⟨a, ha, rfl⟩ := Option.map_eq_some_iff.mp hv
    have hi : i < ts.length := by
      have := (List.getElem?_eq_some_iff.mp ha).1
      omega
    have hg := List.getElem?_eq_getElem hi
    have hr2 : (valsOf ts)[i]? = some (some ((ts[i]).map V.int)) := by
      unfold valsOf
      rw [List.getElem?_map, hg]
      rfl
    rw [hr2] at hr
    cases hr
    obtain ⟨n1, n2, _⟩ := g.pl i _ hg
    exact row_ints (.inl (w.row i a _ ha hg).2.2) (nodup_len (n := 1000) n1 n2)
  · have : (valsOf ts).map (fun r => (r.getD []).length) = ts.map List.length := by
      unfold valsOf
      rw [List.map_map]
      exact List.map_congr_left fun ns _ => List.length_map ..
    rw [this]
    exact hs
theorem valsOf_inj : ∀ {ts us : List (List Int)}, valsOf ts = valsOf us → ts = us
  | [], [], _ => rfl
  | [], _ :: _, h => nomatch h
  | _ :: _, [], h => nomatch h
  | t :: ts, u :: us, h => by
    obtain ⟨h1, h2⟩ := List.cons.inj h
    have h3 := Option.some.inj h1
    have h4 : ∀ {a b : List Int}, a.map V.int = b.map V.int → a = b := fun {a b} h => by
      induction a generalizing b with
      | nil => cases b <;> first | rfl | cases h
      | cons x r ih =>
        cases b with
        | nil => cases h
        | cons y s =>
          obtain ⟨h5, h6⟩ := List.cons.inj h
          rw [V.int.inj h5, ih h6]
    rw [h4 h3, valsOf_inj h2]
/-- whether they are: by all that is asked of turns -/
theorem are_iff {K : PySem.W.Frag} {H : Hp} {v : V} {ts : List (List Int)} (h : TurnsD K H v (some (valsOf ts))) : areV (some (valsOf ts)) = true ↔ OkT ts := ⟨fun hr => by
  obtain ⟨a, us, _, er, hT, _⟩ := are_yes h hr
  rw [valsOf_inj (Option.some.inj er)]
  exact hT, are_of⟩
section
open Evl
variable {K : PySem.W.Frag} {C CE : Addr} {σ : L2.St} {H : Hp} {Q : VK} {E : XK} {te : TE}
theorem sp_web {v : V} {ts : List (List Int)} (hD : TurnsD K H v (some (valsOf ts))) (hT : OkT ts) (q : ∀ x H2, H x = none → Ex H H2 → WebAt C H2 x ts → Q (.ref x) H2) :
    ∀ x dx, H x = none → H dx = none → dx ≠ x → spWebG K C CE [.ref x, v] (upd (upd H dx (.own x)) x (.ins C dx [])) (fun v H2 => v = .non ∧ Q (.ref x) H2) E := fun x dx nx ndx nex => by
  have e1 : Ex H (upd (upd H dx (.own x)) x (.ins C dx [])) := ((Ex.refl H).mut ndx).mut nx
  refine ⟨x, dx, v, some (valsOf ts), H, rfl, upd_same, e1, nx, hD, fun z => ?_, fun us er _ H' ex hw => ⟨rfl, ?_⟩⟩
  · rw [are_of hT] at z
    cases z
  · have : ts = us := valsOf_inj (Option.some.inj er)
    subst this
    have e2 : Ex H H' := fun a o h => ex a o (less_of (e1 _ _ h) (ne_of_none h nx))
    exact q x H' nx e2 (hw H' e2 (fun _ _ _ h => h) rfl)
theorem mk_go {v : V} {ts : List (List Int)} (hv : Ev te σ H v) (hD : TurnsD K H v (some (valsOf ts))) (hT : OkT ts) (q : ∀ x H2, H x = none → Ex H H2 → WebAt C H2 x ts → Q (.ref x) H2) : tMake C (spWebG K C CE) [] E (tCons te tNil) σ H Q :=
  hv H (Ex.refl H) _ fun H1 e1 => sp_web (hD.ex e1) hT fun x H2 nx e2 => q x H2 (fresh_back e1 nx) (e1.trans e2)
end
section
variable {P : Program} {w : World} {K : PySem.W.Frag} {mg : Str → Option Value} {base : Heap}
theorem ok_items {f fTI C : Addr} {fd fdTI : FuncData} {k : Nat} (F : Fun K "items_of" "items_of" sItemsOf f fd)
    (TM : OexC K C) (iC : PySem.W.findIn K (.ref C) "__init__" = some (some (.ref fTI))) (tI : PySem.W.typeIn K (.ref fTI) = some (.type "function")) (GI : FnOk P w K mg base CX0 (k + 1) fTI fdTI ["self", "line", "item"] (spTxtI C)) (bI : Binds K fdTI ["self", "line", "item"] []) (gC : mg "BadText" = some (.ref C))
    (mi : mg "isinstance" = none) (mstr : mg "str" = none) : FnOk P w K mg base (L2.CX P w) (k + 3) f fd ["text"] (spItems K C) := by
  refine F.okX scItemsOf (fun vs H Q E h => ?_) (fun cdv A outer s H vs Q E hr h => ?_)
  · obtain ⟨v, o, rfl, _⟩ := h
    rfl
  · obtain ⟨v, o, rfl, hv, hno, hyes⟩ := h
    refine ⟨_, pss_cons (ps_if (pt_not (pt_val (pe_callB call_isi (by rfl) mi (by decide +kernel) (pa_cons (pv 0) (pa_cons (pe_bltn (v := .ty "str") (by rfl) mstr (by decide +kernel) rfl) pa_nil)))))
        (pss_one (ps_raise rfl (takes_of rfl rfl rfl rfl) (pmk_oex TM iC tI GI hr bI .nil (fun _ _ _ _ _ _ _ c => False.elim c) (by rfl) gC (pa_cons pe_int (pa_cons pe_int pa_nil))))) pss_nil)
      (pss_one (ps_ret (pe_bm PySem.F.plainAttrs_str PySem.F.slot_str_split PySem.F.type_str_split mt_split (pv 0) (pa_cons pe_str pa_nil)))), ?_⟩
    refine Evl.q_when (b := !o.isSome) (Evl.et_not (Evl.et_B (Evl.ev_cb (Evl.ea_cons (Evl.ev_var rfl) (Evl.ea_cons Evl.ev_c Evl.ea_nil)) hv.isStr))) (fun hb H1 e1 => ?_) (fun hb H1 e1 => ?_)
    · cases o with
      | some s => cases hb
      | none => exact mkt_go (i := 0) (Evl.ea_cons Evl.ev_c (Evl.ea_cons Evl.ev_c Evl.ea_nil)) (hno rfl) e1
    · cases o with
      | none => cases hb
      | some s =>
        obtain ⟨rfl, hs⟩ : v = .str s ∧ Tx s := by
          cases hv with
          | yes h => exact ⟨rfl, h⟩
        exact ⟨.str s, rfl, rfl, s, " ", rfl, rfl, by decide, by have := hs.len; rw [sizeLine_eq]; omega, fun l hl => hyes s rfl l _ (e1.trans (Evl.Ex.new hl)) upd_same⟩
theorem ok_read {f fIt fT fA fW fTI C CE CT : Addr} {fd fdIt fdT fdA fdW fdTI : FuncData} {k : Nat} (F : Fun K "read" "Web.read" sRead f fd)
    (FIt : Fun K "items_of" "items_of" sItemsOf fIt fdIt) (GIt : FnOk P w K mg base (L2.CX P w) (k + 3) fIt fdIt ["text"] (spItems K CT)) (bIt : Binds K fdIt ["text"] []) (gIt : mg "items_of" = some (.ref fIt))
    (FT : Fun K "_turns_in" "_turns_in" sTurnsIn fT fdT) (GT : FnOk P w K mg base (L2.CX P w) (k + 3) fT fdT ["items"] (spTurnsIn K CT)) (bT : Binds K fdT ["items"] []) (gT : mg "_turns_in" = some (.ref fT))
    (FA : Fun K "_are_turns" "_are_turns" sAreTurns fA fdA) (GA : FnOk P w K mg base CX0 (k + 3) fA fdA ["turns"] (spAreG K)) (bA : Binds K fdA ["turns"] []) (gA : mg "_are_turns" = some (.ref fA))
    (T : TWeb K mg C) (M : Mk K C fW) (GW : FnOk P w K mg base (L2.CX P w) (k + 2) fW fdW ["self", "turns"] (spWebG K C CE)) (bW : Binds K fdW ["self", "turns"] [])
    (TM : OexC K CT) (iC : PySem.W.findIn K (.ref CT) "__init__" = some (some (.ref fTI))) (tI : PySem.W.typeIn K (.ref fTI) = some (.type "function")) (GI : FnOk P w K mg base CX0 (k + 2) fTI fdTI ["self", "line", "item"] (spTxtI CT)) (bI : Binds K fdTI ["self", "line", "item"] []) (gC : mg "BadText" = some (.ref CT))
    (mlen : mg "len" = none) : FnOk P w K mg base (L2.CX P w) (k + 4) f fd ["text"] (spRead K C CT) := by
  refine F.okX scRead (fun vs H Q E h => ?_) (fun cdv A outer s H vs Q E hr h => ?_)
  · obtain ⟨v, o, rfl, _⟩ := h
    rfl
  · obtain ⟨v, o, rfl, hv, hno, hyes⟩ := h
    have nd := scRead.nd
    refine ⟨_, pss_cons (ps_set (i := 1) nd rfl (.inl rfl) (pe_callS GIt hr (by rfl) gIt FIt.kp bIt (fun σ => passAt (takes_of rfl rfl rfl rfl) σ) (pa_cons (pv 0) pa_nil)))
      (pss_cons (ps_set (i := 2) nd rfl (.inl rfl) (pe_callS GT hr (by rfl) gT FT.kp bT (fun σ => passAt (takes_of rfl rfl rfl rfl) σ) (pa_cons (pv 1) pa_nil)))
      (pss_cons (ps_if (pt_not (pt_val (pe_call GA hr (by rfl) gA FA.kp bA .nil pass0 (pa_cons (pv 2) pa_nil))))
        (pss_one (ps_raise rfl (takes_of rfl rfl rfl rfl) (pmk_oex TM iC tI GI hr bI .nil (fun _ _ _ _ _ _ _ c => False.elim c) (by rfl) gC (pa_cons pe_int (pa_cons (pe_op op_sub (pe_callB call_len_seq (by rfl) mlen PySem.boot_len (pa_cons (pv 1) pa_nil)) pe_int) pa_nil))))) pss_nil)
      (pss_one (ps_ret (pe_make M GW hr (by rfl) T.mgC bW .nil passF (pa_cons (pv 2) pa_nil)))))), ?_⟩
    refine asg_go (callS_go (vs := [v]) (Evl.ea_cons (Evl.ev_var rfl) Evl.ea_nil) fun H1 e1 => ⟨v, o, rfl, hv.ex e1, fun z => (hno z).ex e1, fun s hs l H2 e2 hl => ?_⟩)
    subst hs
    have hs : Tx s := by cases hv with | yes h => exact h
    have hI := hs.its
    obtain ⟨hbad, hok⟩ := hyes s rfl
    have e12 := e1.trans e2
    refine asg_go (callS_go (vs := [.ref l]) (Evl.ea_cons (Evl.ev_var rfl) Evl.ea_nil) fun H3 e3 => ⟨l, _, rfl, Evl.sq_of (e3 _ _ hl), hI, fun i hi => (hbad i (.err hi)).ex (e12.trans e3), fun ts hts A as H4 w4 => ?_⟩)
    obtain ⟨eits, g⟩ := parse_back (asc_split hs.asc) hts
    have hsum : (ts.map List.length).sum ≤ 30000 := by
      have h1 := sum_items (ts := ts)
      rw [← eits] at h1
      have := hI.1
      omega
    have hD := w4.turns (K := K) g hsum
    have e4 := (e12.trans e3).trans w4.ex
    refine Evl.q_when (b := !areV (some (valsOf ts))) (Evl.et_not (Evl.et_B (Evl.ev_call (Evl.ea_cons (Evl.ev_var rfl) Evl.ea_nil) (spv_areG hD)))) (fun hb H5 e5 => ?_) (fun hb H5 e5 => ?_)
    · rw [Bool.not_eq_true'] at hb
      have hn : ¬OkT ts := fun z => by rw [(are_iff hD).mpr z] at hb; cases hb
      have hl5 := e5 _ _ (w4.ex _ _ (e3 _ _ hl))
      have hne : 1 ≤ (Txt.split s " ").length := by
        cases h : Txt.split s " " with
        | nil => exact absurd h (split_ne s)
        | cons a b => exact Nat.succ_le_succ (Nat.zero_le _)
      refine mkt_go (i := (Txt.split s " ").length - 1) (Evl.ea_cons Evl.ev_c (Evl.ea_cons (Evl.ev_is (Evl.ev_op (Evl.ev_len (Evl.ev_var rfl) (Evl.sq_of hl5)) Evl.ev_c Evl.rv_I0) ?_) Evl.ea_nil)) (hbad _ (.bad hts hn)) (e4.trans e5)
      rw [List.length_map]
      congr 1
      omega
    · rw [Bool.not_eq_false'] at hb
      have hT := (are_iff hD).mp hb
      exact ret_go (mk_go (Evl.ev_var rfl) (hD.ex e5) hT fun x H6 _ e6 wx => hok ts (.ok hts hT) x H6 ((e4.trans e5).trans e6) wx)
end
end P04
end S_Ud
section S_Xh
namespace EnL
open PySem PySem.Spec PyProof.Rows L2 Tl
/-! ### == and != by an own __eq__, whatever it says -/
section
variable {prog : Program} {w : World} {A : Around} {E : Value → Shared → Prop} {s : Shared} {K : PySem.W.Frag} {x C f L : Addr} {h₀ : Heap} {m : Str → Option Value} {ox : Obj} {od : Option Obj} {b tb : Value}
theorem check_slotK {M : Model} {id owner n : String} {rest : List Value} {Q : Unit → Shared → Prop} (hk : builtinKind id = some .slot) (hs : splitId id = some (owner, n)) (ha : argsOk id ⟨.ref x :: rest, []⟩)
    (X : K.In s.heap) (I : PySem.W.InstAt s.heap x ox C od) (hm : PySem.W.mroIn K C (.type owner) = some true) (hq : Q () s) : wpAny M A (checkBuiltinCall id ⟨.ref x :: rest, []⟩) Q E s := by
  simp only [checkBuiltinCall, hk, hs]
  refine wpAny_bind ?_
  unfold isInstance
  refine wpAny_bind (I.type.here ?_)
  refine (PySem.W.looks_mroIn X hm).here ?_
  cases hsig : Manifest.signature? id with
  | none => exact wpAny_pure hq
  | some sig =>
    simp only [argsOk, hsig] at ha
    have h2 : Bind.checkArgs id sig ⟨.ref x :: rest, []⟩ = pure () := ha
    show wpAny M A (Bind.checkArgs id sig ⟨.ref x :: rest, []⟩) Q E _
    rw [h2]; exact wpAny_pure hq
theorem ifBound_ne {M : Model} {Q : Option Value → Shared → Prop} (X : K.In s.heap) (I : PySem.W.InstAt s.heap x ox C od) (hs : PySem.W.findIn K (.ref C) "__ne__" = some (some (.builtin "object.__ne__")))
    (h : wpAny M A (call (.builtin "object.__ne__") [.ref x, b]) (fun v => Q (some v)) E s) : wpAny M A (callSpecialIfBound? (.ref x) "__ne__" [b]) Q E s := by
  simp only [callSpecialIfBound?, bindSpecialIfBound?]
  refine wpAny_holding (wpAny_bind (wpAny_bind (wpAny_bind (I.type.here ((PySem.W.looks_findIn X hs).here ?_)))))
  refine wpAny_bind (wpAny_askSetting (wpAny_ite ?_))
  have fin : wpAny M A (call (.builtin "object.__ne__") ([.ref x] ++ [b]) >>= fun v => pure (some v)) Q E s := wpAny_bind (wpAny_mono h (fun v s' h' => wpAny_pure h') fun _ _ h' => h')
  split
  · rw [F.cmp_object.ne.bind]
    exact wpAny_bind (wpAny_pure (wpAny_pure (by exact fin)))
  · refine wpAny_tryCatch ?_
    rw [F.cmp_object.ne.bind]
    exact wpAny_bind (wpAny_pure (wpAny_pure (by exact fin)))
theorem ne_entryK {Q : Fin → Shared → Prop} (X : K.In s.heap) (I : PySem.W.InstAt s.heap x ox C od) (hu : A.units < cLine) (hs : PySem.W.findIn K (.ref C) "__eq__" = some (some (.ref f))) (hf : PySem.W.isFn K (.ref f) = true)
    (hcall : wpAny (model prog w) A (call (.ref f) [.ref x, b]) (fun v s' => ∃ k, v = .bool k ∧ Q (.done (.ret (.bool (!k)))) s') E s) :
    wpAny (model prog w) A (Builtin.«object.__ne__» ⟨[.ref x, b], []⟩) Q E s := by
  unfold Builtin.«object.__ne__»
  have eq1 := fun (Q1 : Option Value → Shared → Prop) (h : wpAny (model prog w) A (call (.ref f) [.ref x, b]) (fun v => Q1 (some v)) E s) => PySem.W.ifBound_K (args := [b]) (E := E) X I hs hf h
  repeat (first
    | with_reducible refine wpAny_cRoomFor hu ?_
    | (refine wpAny_bind (m := callSpecialIfBound? (.ref x) (Str.ofString "__eq__") [b])
        (eq1 _ (wpAny_mono hcall (fun v s' hv => by
          obtain ⟨k, rfl, hq⟩ := hv
          repeat (first | exact hq | exact wpAny_pure hq | exact wpAny_truthy_bool hq | (refine wpAny_bind (m := truthy (.bool _)) (wpAny_truthy_bool ?_)) | wp_step)) fun _ _ e => e)))
    | wp_step)
theorem richK {op : CmpOp} {Q : Value → Shared → Prop} (hu : A.units < cLine) (X : K.In s.heap) (I : PySem.W.InstAt s.heap x ox C od) (hb : PySem.W.Looks (model prog w) s.heap (typeOf b) tb) (hn : PySem.W.notFirst K C tb = true)
    (h : wpAny (model prog w) A (tryCompare (.ref x) (cmpInfo op).2.1 b) (fun r s' => ∃ v, r = some v ∧ Q v s') E s) : wpAny (model prog w) A (richCompare op (.ref x) b) Q E s := by
  unfold richCompare
  simp only [oneThing_ref]
  refine wpAny_holding (wpAny_bind (wpAny_cRoomFor hu ?_))
  refine wpAny_bind (I.type.here (wpAny_bind (hb.here ?_)))
  split
  · rename_i q
    have e : PySem.W.subIn K tb (.ref C) = some false := by
      rcases Bool.or_eq_true_iff.mp hn with e | e
      · rw [beq_iff_eq.mp e] at q; simp at q
      · exact beq_iff_eq.mp e
    refine wpAny_bind ((PySem.W.looks_subIn X e).here ?_)
    simp only [Bool.false_eq_true, if_false]
    refine wpAny_bind (wpAny_mono h (fun r s' z => ?_) fun _ _ e => e)
    obtain ⟨v, rfl, hq⟩ := z
    exact wpAny_pure hq
  · refine wpAny_bind (wpAny_pure ?_)
    simp only [Bool.false_eq_true, if_false]
    refine wpAny_bind (wpAny_mono h (fun r s' z => ?_) fun _ _ e => e)
    obtain ⟨v, rfl, hq⟩ := z
    exact wpAny_pure hq
theorem cmp_ne {Q : Value → Shared → Prop} (hu : A.units + 1 < cLine) (X : K.In s.heap) (I : PySem.W.InstAt s.heap x ox C od) (hb : PySem.W.Looks (model prog w) s.heap (typeOf b) tb) (hn : PySem.W.notFirst K C tb = true)
    (hs : PySem.W.findIn K (.ref C) "__eq__" = some (some (.ref f))) (hf : PySem.W.isFn K (.ref f) = true) (hne : PySem.W.findIn K (.ref C) "__ne__" = some (some (.builtin "object.__ne__"))) (hm : PySem.W.mroIn K C (.type "object") = some true)
    (h : wpAny (model prog w) A.in1 (call (.ref f) [.ref x, b]) (fun v s' => ∃ k, v = .bool k ∧ Q (.bool (!k)) s') E s) : wpAny (model prog w) A (richCompare .NotEq (.ref x) b) Q E s := by
  refine richK (Nat.lt_of_succ_lt hu) X I hb hn ?_
  show wpAny (model prog w) A (tryCompare (.ref x) "__ne__" b) (fun r s' => ∃ v, r = some v ∧ Q v s') E s
  unfold tryCompare
  refine wpAny_bind (ifBound_ne (Q := fun r s' => wpAny (model prog w) A (match r with | some .notImplemented => pure none | none => pure none | some v => pure (some v)) (fun r s' => ∃ v, r = some v ∧ Q v s') E s') X I hne (wpAny_call (codeAny_call_builtin F.cmp_object.ne.plain F.cmpEntry_ne (check_slotK F.cmpKind_ne F.cmpSplit_ne (F.cmpArgs_ne _ _) X I hm (ne_entryK (A := A.in1) X I hu hs hf (wpAny_mono h (fun v s' hv => ?_) fun _ _ e => e))))))
  obtain ⟨k, rfl, hq⟩ := hv
  exact ⟨k, rfl, wpAny_pure ⟨_, rfl, hq⟩⟩
end
/-- y stands aside when an instance of the class at C is compared with it -/
def Aside (K : PySem.W.Frag) (C : Addr) (H : Hp) (y : V) : Prop := (∃ b dy gs, y = .ref b ∧ H b = some (.ins C dy gs)) ∨ (∃ b ys, y = .ref b ∧ SqT K H b ys ∧ PySem.W.subIn K (.type "tuple") (.ref C) = some false)
/-- x == y (neg: x != y), x an instance of the class at C with an own __eq__ -/
def rOwnEq (K : PySem.W.Frag) (C : Addr) (neg : Bool) (sp : Sp) (E : XK) : R2 := fun x y H Q => ∃ a dx fs, x = .ref a ∧ H a = some (.ins C dx fs) ∧ Aside K C H y ∧ sp [x, y] H (fun v H' => ∃ k, v = .bl k ∧ Q (.bl (k != neg)) H') E
section
variable {X : Cx} {CX : CXT} {C f : Addr} {fd : FuncData} {ps : List Str} {n : Nat} {sp : Sp} {E : XK}
theorem aside_looks {pins : List (Addr × Obj)} {σ : L2.St} {H : Hp} {s : Shared} {y : V} {u : Value} (I : Inv X pins σ H s) (ry : RelV y u) (h : Aside X.K C H y) : ∃ tb, PySem.W.Looks (model X.prog X.w) s.heap (typeOf u) tb ∧ PySem.W.notFirst X.K C tb = true := by
  rcases h with ⟨b, dy, gs, rfl, hb⟩ | ⟨b, ys, rfl, hb, hs⟩
  · cases (show u = Value.ref b from ry)
    obtain ⟨mB, J, _⟩ := ins_get I.hok hb
    obtain ⟨od, J, _⟩ := J.look
    exact ⟨_, J.type, by simp [PySem.W.notFirst]⟩
  · cases (show u = Value.ref b from ry)
    obtain ⟨its, _, ⟨o, e, ec, _⟩, _⟩ := I.tuple hb
    refine ⟨.type "tuple", ?_, by simp [PySem.W.notFirst, hs]⟩
    intro A Q E s' k q
    refine wpAny_typeOf_ref (k _ _ e) ?_
    rw [ec]
    exact q
theorem op_ownEq (hs : PySem.W.findIn X.K (.ref C) "__eq__" = some (some (.ref f))) (hf : PySem.W.isFn X.K (.ref f) = true) (F : FnOk X.prog X.w X.K X.mg X.base CX n f fd ps sp) (hb : Binds X.K fd ps [])
    (hr : Room n X.A) (hx : Passes CX X E) : OpR X (compareOp .Eq) (rOwnEq X.K C false sp E) := by
  intro pins s σ H x y v u Q I rx ry h
  obtain ⟨a, dx, fs, rfl, ha, hy, q⟩ := h
  cases (show v = Value.ref a from rx)
  obtain ⟨mA, J, _⟩ := ins_get I.hok ha
  obtain ⟨od, J, _⟩ := J.look
  obtain ⟨m, hF⟩ := I.fr
  obtain ⟨tb, L, hn⟩ := aside_looks I ry hy
  show wpAny (model X.prog X.w) X.A (richCompare .Eq (.ref a) u) (EP X pins σ Q) X.xe s
  refine PySem.W.cmp_K (op := .Eq) hr.units0 hF I.ok.mod.kin J L hn hs hf ?_
  refine wpAny_mono (run_fn (us := [.ref a, u]) (vs := [.ref a, y]) F hr hb .nil hx I (.cons rfl (.cons ry .nil)) q) (fun w s' z => ?_) fun _ _ x => x
  obtain ⟨z', H', I', rz, k, ez, qz⟩ := z
  subst ez
  cases (show w = Value.bool k from rz)
  refine ⟨.bl k, H', I', rfl, ?_⟩
  cases k <;> exact qz
theorem op_ownNe (hs : PySem.W.findIn X.K (.ref C) "__eq__" = some (some (.ref f))) (hf : PySem.W.isFn X.K (.ref f) = true) (hne : PySem.W.findIn X.K (.ref C) "__ne__" = some (some (.builtin "object.__ne__"))) (hm : PySem.W.mroIn X.K C (.type "object") = some true)
    (F : FnOk X.prog X.w X.K X.mg X.base CX n f fd ps sp) (hb : Binds X.K fd ps []) (hr : Room (n + 1) X.A) (hx : Passes CX X E) : OpR X (compareOp .NotEq) (rOwnEq X.K C true sp E) := by
  intro pins s σ H x y v u Q I rx ry h
  obtain ⟨a, dx, fs, rfl, ha, hy, q⟩ := h
  cases (show v = Value.ref a from rx)
  obtain ⟨mA, J, _⟩ := ins_get I.hok ha
  obtain ⟨od, J, _⟩ := J.look
  obtain ⟨tb, L, hn⟩ := aside_looks I ry hy
  show wpAny (model X.prog X.w) X.A (richCompare .NotEq (.ref a) u) (EP X pins σ Q) X.xe s
  refine cmp_ne (by have := hr.un; omega) I.kIn J L hn hs hf hne hm ?_
  have hl := F.len _ _ _ _ q
  have r2 : Vals [V.ref a, y] [Value.ref a, u] := .cons rfl (.cons ry .nil)
  refine wpAny_call (codeAny_mono (F.run X.A.in1 X.stack s H ⟨[.ref a, u], []⟩ [.ref a, u] [.ref a, y] _ E hr.in1 I.env0.in1 (by
    have := hb s [.ref a, u] I.kIn (by simpa using hl)
    simpa using this) r2 q) fun r s' hq => ?_)
  cases r with
  | error e => exact hx pins σ H s e s' I hq
  | ok fl =>
    cases fl with
    | ret w =>
      obtain ⟨z, H', I', rz, k, ez, qz⟩ := I.after hq
      subst ez
      cases (show w = Value.bool k from rz)
      refine ⟨k, rfl, .bl (!k), H', I', rfl, ?_⟩
      cases k <;> exact qz
    | next => exact False.elim hq
    | brk => exact False.elim hq
    | cont => exact False.elim hq
end
end EnL
end S_Xh
section S_Xi
namespace EnL
open PySem PySem.Spec PyProof.Rows L2 Tl Hk
/-! ### values told by what is new -/
/-- of H what G has not -/
def nw (G H : Hp) : Hp := fun a => if (G a).isNone = true then H a else none
theorem nw_of {G H : Hp} {a : Addr} {o : HO} (h : G a = none) (h2 : H a = some o) : nw G H a = some o := by
  unfold nw
  rw [h]
  exact h2
theorem nw_at {G H : Hp} {a : Addr} {o : HO} (h : nw G H a = some o) : G a = none ∧ H a = some o := by
  unfold nw at h
  cases z : G a with
  | none => rw [z] at h; exact ⟨rfl, h⟩
  | some u => rw [z] at h; cases h
theorem nw_ex {G H : Hp} : Evl.Ex (nw G H) H := fun a o h => (nw_at h).2
theorem nw_by {G H H' : Hp} (h : ∀ a o, G a = none → H a = some o → H' a = some o) : Evl.Ex (nw G H) H' := fun a o e => h a o (nw_at e).1 (nw_at e).2
theorem nw_up {G H H' : Hp} (e : Evl.Ex H H') : Evl.Ex (nw G H) (nw G H') := fun a o h => nw_of (nw_at h).1 (e _ _ (nw_at h).2)
theorem nw_back {G G' H : Hp} (e : Evl.Ex G G') : Evl.Ex (nw G' H) (nw G H) := fun a o h => nw_of (Evl.fresh_back e (nw_at h).1) (nw_at h).2
def Mono (R : V → Hp → Prop) : Prop := ∀ v H H', Evl.Ex H H' → R v H → R v H'
section
open Evl
variable {K : PySem.W.Frag} {σ : L2.St} {G : Hp} {te : TE} {ta : TA} {R R' : V → Hp → Prop} {n : Nat}
def EvF (te : TE) (σ : L2.St) (G : Hp) (R : V → Hp → Prop) : Prop := ∀ H1, Ex G H1 → ∀ Q : VK, (∀ v H2, Ex H1 H2 → R v (nw H1 H2) → Q v H2) → te σ H1 Q
def EvAF (ta : TA) (σ : L2.St) (G : Hp) (n : Nat) (R : V → Hp → Prop) : Prop := ∀ H1, Ex G H1 → ∀ Q : List V → Hp → Prop, (∀ vs H2, Ex H1 H2 → vs.length = n → (∀ v ∈ vs, R v (nw H1 H2)) → Q vs H2) → ta σ H1 Q
theorem ef_nil : EvAF tNil σ G 0 R := fun H1 e Q q => q [] H1 (Ex.refl H1) rfl fun v h => nomatch h
theorem ef_cons {tr : TA} (m : Mono R) (h : EvF te σ G R) (hr : EvAF tr σ G n R) : EvAF (tCons te tr) σ G (n + 1) R := fun H1 e Q q => h H1 e _ fun v H2 e2 hv => hr H2 (e.trans e2) _ fun vs H3 e3 l3 h3 =>
  q (v :: vs) H3 (e2.trans e3) (by rw [List.length_cons, l3]) fun u hu => by
    rcases List.mem_cons.mp hu with z | z
    · subst z
      exact m _ _ _ (nw_up e3) hv
    · exact m _ _ _ (nw_back e2) (h3 u z)
theorem ef_c {v : V} (h : Ev te σ G v) (r : ∀ H, R v H) : EvF te σ G R := fun H1 e Q q => h H1 e Q fun H2 e2 => q v H2 e2 (r _)
theorem ef_l {xs : List V} (h : EvL te σ G xs) (r : ∀ p H, H p = some (.lst xs) → R (.ref p) H) : EvF te σ G R := fun H1 e Q q => h H1 e Q fun p H2 hp e2 h2 => q _ H2 e2 (r p _ (nw_of hp h2))
theorem ef_u {xs : List V} (h : EvU te σ G xs) (r : ∀ p H, H p = some (.tup xs) → R (.ref p) H) : EvF te σ G R := fun H1 e Q q => h H1 e Q fun p H2 hp e2 h2 => q _ H2 e2 (r p _ (nw_of hp h2))
theorem ef_d (r : ∀ p H, H p = some (.dK []) → R (.ref p) H) : EvF tDNewK σ G R := fun H1 e Q q p hp => q _ _ (Ex.new hp) (r p _ (nw_of hp upd_same))
theorem ef_lst (m : Mono R) (h : EvAF ta σ G n R) (hn : n ≤ 100000) (r : ∀ p xs H, H p = some (.lst xs) → xs.length = n → (∀ v ∈ xs, R v H) → R' (.ref p) H) : EvF (tLst ta) σ G R' := fun H1 e Q q => h H1 e _ fun vs H2 e2 l2 h2 =>
  ⟨by rw [sizeLine_eq]; omega, fun p hp => q _ _ (e2.trans (Ex.new hp)) (r p vs _ (nw_of (fresh_back e2 hp) upd_same) l2 fun v hv => m _ _ _ (nw_up (Ex.new hp)) (h2 v hv))⟩
theorem mem_rep {α : Type} {xs : List α} {k : Nat} {v : α} (h : v ∈ (List.replicate k xs).flatten) : v ∈ xs := by
  obtain ⟨ys, h1, h2⟩ := List.mem_flatten.mp h
  rw [(List.mem_replicate.mp h1).2] at h2
  exact h2
theorem ef_rep {ti : TE} {k : Int} {m : Nat} (mo : Mono R) (h : EvF te σ G (fun u H' => ∃ p xs, u = .ref p ∧ H' p = some (.lst xs) ∧ xs.length ≤ m ∧ ∀ v ∈ xs, R v H')) (hi : ∀ H', Ex G H' → Ev ti σ H' (.int k)) (k0 : 0 ≤ k) (k1 : k ≤ 10000) (hm : m ≤ 5)
    (r : ∀ p ys H, H p = some (.lst ys) → ys.length ≤ m * k.toNat → (∀ v ∈ ys, R v H) → R' (.ref p) H) : EvF (tOp rRep te ti) σ G R' := fun H1 e Q q => h H1 e _ fun v H2 e2 hv => by
  obtain ⟨p, xs, rfl, hp, hl, hx⟩ := hv
  refine hi H2 (e.trans e2) H2 (Ex.refl _) _ fun H3 e3 => ⟨p, k, xs, rfl, rfl, e3 _ _ (nw_at hp).2, by omega, by omega, ?_, fun b hb => q _ _ ((e2.trans e3).trans (Ex.new hb)) (r b _ _ (nw_of (fresh_back (e2.trans e3) hb) upd_same) ?_ fun v hv => mo _ _ _ (nw_up (e3.trans (Ex.new hb))) (hx v (mem_rep hv)))⟩
  · rw [sizeLine_eq]
    have : k.toNat ≤ 10000 := by omega
    have := Nat.mul_le_mul (show xs.length ≤ 5 by omega) this
    omega
  · have len : ∀ j : Nat, ((List.replicate j xs).flatten).length = j * xs.length := fun j => by
      induction j with
      | zero => rw [Nat.zero_mul]; rfl
      | succ j ih => rw [List.replicate_succ, List.flatten_cons, List.length_append, ih, Nat.succ_mul, Nat.add_comm]
    rw [len]
    rw [Nat.mul_comm]
    exact Nat.mul_le_mul hl (Nat.le_refl _)
/-- a comprehension whose items are new objects, all unlike -/
theorem go_lcD {wi : TI} {g : TG} {te : TE} {vs : List Nat} {n : Nat} {Y : Nat → Hp → V → Hp → Prop} {s : Nat → L2.St → L2.St} {σ : L2.St} {H : Hp} {o : Nat → HO} (hw : EvI wi σ H n Y) (aim : Aims g n Y s) (hs : ∀ i, wipe (s i (wipe σ vs)) vs = wipe σ vs) (hn : n ≤ 90000)
    (he : ∀ i, i < n → ∀ H1, Ex H H1 → ∀ Q : VK, (∀ p H2, H1 p = none → Ex H1 H2 → H2 p = some (o i) → Q (.ref p) H2) → te (s i (wipe σ vs)) H1 Q) (H1 : Hp) (e : Ex H H1) (Q : VK)
    (q : ∀ (D : Addr) (as : List Addr) (H2 : Hp), H1 D = none → Ex H1 H2 → H2 D = some (.lst (as.map V.ref)) → as.length = n → as.Nodup → (∀ (i : Nat) (a : Addr), as[i]? = some a → H1 a = none ∧ a ≠ D ∧ H2 a = some (o i)) → Q (.ref D) H2) :
    tLc wi g tYes te vs σ H1 Q :=
  hw H1 e _ fun J G H2 e2 w sG D hD => lc_it w (fun i H' => Ex H2 H' ∧ ∃ as : List Addr, H' D = some (.lst (as.map V.ref)) ∧ as.length = i ∧ as.Nodup ∧ (∀ (k : Nat) (a : Addr), as[k]? = some a → H1 a = none ∧ H' a = some (o k) ∧ a ≠ D))
    ⟨Ex.new hD, [], upd_same, rfl, List.nodup_nil, fun i v h => by simp at h⟩ (fun i H' _ p => sG H' ((e.trans e2).trans p.1) fun a o _ ha => p.1 _ _ ha)
    (fun i x A B hi p y => by
      obtain ⟨p1, as, p3, p4, pn, p5⟩ := p
      obtain ⟨ab, k⟩ := aim i (wipe σ vs) A x B hi y
      refine k _ ⟨hs i, ?_⟩
      show te (s i (wipe σ vs)) B _
      refine he i hi B (((e.trans e2).trans p1).trans ab) _ fun p C hp eC hC => ⟨as.map V.ref, eC _ _ (ab _ _ p3), sz_lt (by rw [List.length_map]; omega), ((p1.trans ab).trans eC).mut hD, as ++ [p], ?_, by rw [List.length_append, p4] <;> rfl, ?_, fun j a ha => ?_⟩
      · rw [upd_same, List.map_append]
        rfl
      · rw [List.nodup_append]
        refine ⟨pn, by simp, fun x hx y hy e => ?_⟩
        rw [List.mem_singleton.mp hy] at e
        subst e
        obtain ⟨j, hj⟩ := List.mem_iff_getElem?.mp hx
        rw [ab _ _ (p5 j x hj).2.1] at hp
        cases hp
      · rcases addr_snoc ha with ⟨_, ha⟩ | ⟨rfl, rfl⟩
        · obtain ⟨q1, q2, q3⟩ := p5 j a ha
          exact ⟨q1, by rw [upd_ne q3]; exact eC _ _ (ab _ _ q2), q3⟩
        · have pD : p ≠ D := fun z => by rw [z, ab _ _ p3] at hp; cases hp
          exact ⟨fresh_back ((e2.trans p1).trans ab) hp, by rw [upd_ne pD, p4]; exact hC, pD⟩)
    (fun H' p => by
      obtain ⟨p1, as, p3, p4, pn, p5⟩ := p
      exact q D as H' (fresh_back e2 hD) (e2.trans p1) p3 p4 pn fun i a ha => ⟨(p5 i a ha).1, (p5 i a ha).2.2, (p5 i a ha).2.1⟩)
end
end EnL
end S_Xi
section S_Xj
namespace EnL
open PySem PySem.Spec PyProof.Rows L2 Tl Hk
/-! ### what can be shown -/
structure Sh (c k : Nat) (d : PyData) : Prop where
  ok : d.showable = true
  nd : d.hasDict = false
  deep : d.depth ≤ k
  len : d.shown.length ≤ c
theorem pile_le : ∀ {ts : List Str} {c : Nat}, (∀ t ∈ ts, t.length ≤ c) → piled ts ≤ ts.length * (c + 2)
  | [], c, _ => Nat.zero_le _
  | t :: r, c, h => by
    have h1 := h t List.mem_cons_self
    have h2 := pile_le (ts := r) (c := c) fun u hu => h u (List.mem_cons_of_mem _ hu)
    rw [List.length_cons, Nat.succ_mul]
    show t.length + 2 + piled r ≤ _
    omega
theorem tup_le {ts : List Str} {c : Nat} (h : ∀ t ∈ ts, t.length ≤ c) : (tupleText ts).length ≤ ts.length * (c + 2) + 3 := by
  unfold tupleText
  rw [strLen_append, strLen_append]
  have e1 : (("(" : String) : Str).length = 1 := rfl
  have e2 : (((if ts.length == 1 then ",)" else ")" : String)) : Str).length ≤ 2 := by split <;> decide
  have e3 : (Str.join ", " ts).length ≤ piled ts := by
    cases ts with
    | nil => exact Nat.le_refl _
    | cons t r => have := join_length_add (t :: r) (by simp); omega
  have := pile_le h
  omega
theorem show_all : ∀ {ds : List PyData}, (∀ d ∈ ds, d.showable = true) → PyData.showableAll ds = true
  | [], _ => rfl
  | d :: r, h => by
    show (d.showable && PyData.showableAll r) = true
    rw [h d List.mem_cons_self, show_all fun x hx => h x (List.mem_cons_of_mem _ hx)] <;> rfl
theorem nd_all : ∀ {ds : List PyData}, (∀ d ∈ ds, d.hasDict = false) → PyData.hasDictAll ds = false
  | [], _ => rfl
  | d :: r, h => by
    show (d.hasDict || PyData.hasDictAll r) = false
    rw [h d List.mem_cons_self, nd_all fun x hx => h x (List.mem_cons_of_mem _ hx)] <;> rfl
theorem deepAll : ∀ {ds : List PyData} {k : Nat}, (∀ d ∈ ds, d.depth ≤ k) → PyData.depthAll ds ≤ k
  | [], k, _ => Nat.zero_le _
  | d :: r, k, h => by
    unfold PyData.depthAll
    have h1 := h d List.mem_cons_self
    have h2 := deepAll (ds := r) (k := k) fun x hx => h x (List.mem_cons_of_mem _ hx)
    omega
theorem Sh.le {c k c' k' : Nat} {d : PyData} (h : Sh c k d) (h1 : c ≤ c') (h2 : k ≤ k') : Sh c' k' d := ⟨h.ok, h.nd, Nat.le_trans h.deep h2, Nat.le_trans h.len h1⟩
theorem sh_int {x : Int} (h : x.natAbs ≤ 64) : Sh 66 1 (.int x) := by
  refine ⟨decide_eq_true (Nat.lt_of_le_of_lt (Nat.log2_le_self _) (by omega)), rfl, by unfold PyData.depth; omega, ?_⟩
  have b1 := len_str_of_int x
  show (Str.ofString (toString x)).length ≤ 66
  omega
theorem sh_bl (b : Bool) : Sh 66 1 (.bool b) := by
  refine ⟨rfl, rfl, by unfold PyData.depth; omega, ?_⟩
  cases b <;> decide +kernel
theorem sh_tup {c k m C : Nat} {ds : List PyData} (h : ∀ d ∈ ds, Sh c k d) (hl : ds.length ≤ m) (hC : m * (c + 2) + 3 ≤ C) : Sh C (k + 1) (.tuple ds) := by
  refine ⟨show_all fun d hd => (h d hd).ok, nd_all fun d hd => (h d hd).nd, Nat.succ_le_succ (deepAll fun d hd => (h d hd).deep), ?_⟩
  show (tupleText (PyData.shownAll ds)).length ≤ _
  rw [shownAll_eq]
  have h2 := tup_le (ts := ds.map PyData.shown) (c := c) fun t ht => by
    obtain ⟨d, hd, rfl⟩ := List.mem_map.mp ht
    exact (h d hd).len
  rw [List.length_map] at h2
  have := Nat.mul_le_mul hl (Nat.le_refl (c + 2))
  omega
theorem sh_lst {c k m C : Nat} {ds : List PyData} (h : ∀ d ∈ ds, Sh c k d) (hl : ds.length ≤ m) (hC : m * (c + 2) + 3 ≤ C) : Sh C (k + 1) (.list ds) := by
  refine ⟨show_all fun d hd => (h d hd).ok, nd_all fun d hd => (h d hd).nd, Nat.succ_le_succ (deepAll fun d hd => (h d hd).deep), ?_⟩
  show (listText (PyData.shownAll ds)).length ≤ _
  rw [shownAll_eq]
  have h2 := listText_le (ts := ds.map PyData.shown) (c := c) fun t ht => by
    obtain ⟨d, hd, rfl⟩ := List.mem_map.mp ht
    exact (h d hd).len
  rw [List.length_map] at h2
  have := Nat.mul_le_mul hl (Nat.le_refl (c + 2))
  omega
/-- a row of small ints -/
theorem sh_row {ns : List Int} (h : ns.length ≤ 64) (h2 : ∀ x ∈ ns, x.natAbs ≤ 64) : Sh 4400 2 (.tuple (ns.map PyData.int)) := sh_tup (c := 66) (m := 64) (fun d hd => by
  obtain ⟨x, hx, rfl⟩ := List.mem_map.mp hd
  exact sh_int (h2 x hx)) (by rw [List.length_map]; exact h) (by decide)
theorem sh_rowL {ns : List Int} (h : ns.length ≤ 64) (h2 : ∀ x ∈ ns, x.natAbs ≤ 64) : Sh 4400 2 (.list (ns.map PyData.int)) := sh_lst (c := 66) (m := 64) (fun d hd => by
  obtain ⟨x, hx, rfl⟩ := List.mem_map.mp hd
  exact sh_int (h2 x hx)) (by rw [List.length_map]; exact h) (by decide)
/-! ### a value told as data -/
section
open Evl
variable {K : PySem.W.Frag} {σ : L2.St} {G : Hp} {te : TE} {ta : TA} {d : PyData} {ds : List PyData}
def EvD (K : PySem.W.Frag) (te : TE) (σ : L2.St) (G : Hp) (d : PyData) : Prop := ∀ H1, Ex G H1 → ∀ Q : VK, (∀ v H2, Ex H1 H2 → Dp K H2 v d → Q v H2) → te σ H1 Q
def EvAD (K : PySem.W.Frag) (ta : TA) (σ : L2.St) (G : Hp) (ds : List PyData) : Prop := ∀ H1, Ex G H1 → ∀ Q : List V → Hp → Prop, (∀ vs H2, Ex H1 H2 → DpAll K H2 vs ds → Q vs H2) → ta σ H1 Q
theorem dpAll_len : ∀ {H : Hp} {vs : List V} {ds : List PyData}, DpAll K H vs ds → vs.length = ds.length
  | _, _, _, .nil => rfl
  | _, _, _, .cons _ a => by rw [List.length_cons, List.length_cons, dpAll_len a]
theorem ev_up {v : V} {H : Hp} (h : Ev te σ G v) (e : Ex G H) : Ev te σ H v := fun H1 e1 => h H1 (e.trans e1)
theorem ed_nil : EvAD K tNil σ G [] := fun H1 e Q q => q [] H1 (Ex.refl H1) .nil
theorem ed_cons {tr : TA} (h : EvD K te σ G d) (hr : EvAD K tr σ G ds) : EvAD K (tCons te tr) σ G (d :: ds) := fun H1 e Q q => h H1 e _ fun v H2 e2 hv => hr H2 (e.trans e2) _ fun vs H3 e3 hs => q (v :: vs) H3 (e2.trans e3) (.cons (dp_ex e3 hv) hs)
theorem ed_v {v : V} (h : Ev te σ G v) (hd : Dp K G v d) : EvD K te σ G d := fun H1 e Q q => h H1 e Q fun H2 e2 => q v H2 e2 (dp_ex (e.trans e2) hd)
theorem ed_u {xs : List V} (h : EvU te σ G xs) (hd : DpAll K G xs ds) : EvD K te σ G (.tuple ds) := fun H1 e Q q => h H1 e Q fun p H2 hp e2 h2 => q _ H2 e2 (.tup (st_of h2) (dpa_ex (e.trans e2) hd))
theorem ed_l {xs : List V} (h : EvL te σ G xs) (hd : DpAll K G xs ds) : EvD K te σ G (.list ds) := fun H1 e Q q => h H1 e Q fun p H2 hp e2 h2 => q _ H2 e2 (.lst (sq_of h2) (dpa_ex (e.trans e2) hd))
theorem ed_lst (h : EvAD K ta σ G ds) (hn : ds.length ≤ 100000) : EvD K (tLst ta) σ G (.list ds) := fun H1 e Q q => h H1 e _ fun vs H2 e2 h2 =>
  ⟨by rw [sizeLine_eq, dpAll_len h2]; omega, fun p hp => q _ _ (e2.trans (Ex.new hp)) (.lst (sq_of upd_same) (dpa_ex (Ex.new hp) h2))⟩
theorem ed_tup (h : EvAD K ta σ G ds) (hn : ds.length ≤ 100000) : EvD K (tTup ta) σ G (.tuple ds) := fun H1 e Q q => h H1 e _ fun vs H2 e2 h2 =>
  ⟨by rw [sizeLine_eq, dpAll_len h2]; omega, fun p hp => q _ _ (e2.trans (Ex.new hp)) (.tup (st_of upd_same) (dpa_ex (Ex.new hp) h2))⟩
theorem dpa_ints {H : Hp} : ∀ ns : List Int, DpAll K H (ns.map V.int) (ns.map PyData.int)
  | [] => .nil
  | x :: r => .cons (.int x) (dpa_ints r)
theorem ev_reprV {c k : Nat} (h : EvD K te σ G d) (hr : ∀ v H, Dp K H v d → ∃ a, v = .ref a) (s : Sh c k d) (hc : c ≤ 1000000) (hk : k ≤ 20) : Ev (tCB (rReprX K) (tCons te tNil)) σ G (.str d.shown) := fun H1 e Q q => h H1 e _ fun v H2 e2 hv => by
  obtain ⟨a, rfl⟩ := hr v H2 hv
  exact .inl (.inl ⟨a, d, rfl, hv, s.ok, s.nd, Nat.le_trans s.deep hk, Nat.le_trans s.len (by rw [sizeLine_eq]; omega), q H2 e2⟩)
theorem dp_lst {v : V} {H : Hp} (h : Dp K H v (.list ds)) : ∃ a, v = .ref a := by
  cases h with
  | lst h a => exact ⟨_, rfl⟩
theorem dp_tup {v : V} {H : Hp} (h : Dp K H v (.tuple ds)) : ∃ a, v = .ref a := by
  cases h with
  | tup h a => exact ⟨_, rfl⟩
theorem ev_reprL {c k : Nat} (h : EvD K te σ G (.list ds)) (s : Sh c k (.list ds)) (hc : c ≤ 1000000) (hk : k ≤ 20) : Ev (tCB (rReprX K) (tCons te tNil)) σ G (.str (PyData.list ds).shown) := ev_reprV h (fun _ _ => dp_lst) s hc hk
theorem ev_reprU {c k : Nat} (h : EvD K te σ G (.tuple ds)) (s : Sh c k (.tuple ds)) (hc : c ≤ 1000000) (hk : k ≤ 20) : Ev (tCB (rReprX K) (tCons te tNil)) σ G (.str (PyData.tuple ds).shown) := ev_reprV h (fun _ _ => dp_tup) s hc hk
/-- [x] * 2 -/
theorem ed_two (h : EvD K te σ G d) : EvD K (tOp rRep (tLst (tCons te tNil)) (tC (.int 2))) σ G (.list [d, d]) := fun H1 e Q q => h H1 e _ fun v H2 e2 hv => by
  refine ⟨by show 1 ≤ sizeLine; decide, fun p hp => ⟨p, 2, [v], rfl, rfl, upd_same, by decide, by decide, by show 1 * 2 ≤ _; decide, fun b hb => ?_⟩⟩
  have e3 := (Ex.new (o := .lst [v]) hp).trans (Ex.new (o := .lst [v, v]) hb)
  exact q _ _ (e2.trans e3) (.lst (sq_of upd_same) (.cons (dp_ex e3 hv) (.cons (dp_ex e3 hv) .nil)))
end
end EnL
end S_Xj
section S_Xk
namespace EnL
open PySem PySem.Spec PyProof.Rows L2 Tl Hk
section
open Evl
variable {K : PySem.W.Frag} {σ : L2.St} {H : Hp}
/-- a comprehension with a test that is known, whose items are new -/
theorem en_lcI {β : Type} {wi : TI} {g : TG} {tt : TT} {te : TE} {vs : List Nat} {n : Nat} {Y : Nat → Hp → V → Hp → Prop} {s : Nat → L2.St → L2.St} (hw : EvI wi σ H n Y) (aim : Aims g n Y s) (hs : ∀ i, wipe (s i (wipe σ vs)) vs = wipe σ vs) (hn : n ≤ 90000)
    (f : Nat → Bool) (b : Nat → β) (Rb : β → V → Hp → Prop) (ht : ∀ i, i < n → EvT tt (s i (wipe σ vs)) H (f i)) (he : ∀ i, i < n → f i = true → EvN te (s i (wipe σ vs)) H (Rb (b i))) : EvNL (tLc wi g tt te vs) σ H (Row2 Rb (part f b n)) := fun H1 e Q q =>
  hw H1 e _ fun J G H2 e2 w sG D hD => lc_it w (fun i H' => Ex H2 H' ∧ ∃ acc, H' D = some (.lst acc) ∧ acc.length = (part f b i).length ∧ acc.length ≤ i ∧ ∀ (k : Nat) (d : β) (v : V), (part f b i)[k]? = some d → acc[k]? = some v → ∀ H3, Ex H H3 → (∀ a o, a ≠ D → H1 a = none → H' a = some o → H3 a = some o) → Rb d v H3)
    ⟨Ex.new hD, [], upd_same, rfl, Nat.le_refl _, fun k d v h => by simp [Tl.part] at h⟩ (fun i H' _ p => sG H' ((e.trans e2).trans p.1) fun a o _ ha => p.1 _ _ ha)
    (fun i x A B hi p y => by
      obtain ⟨p1, acc, p3, p4, pl, p5⟩ := p
      obtain ⟨ab, k⟩ := aim i (wipe σ vs) A x B hi y
      refine k _ ⟨hs i, ?_⟩
      have hHB : Ex H B := ((e.trans e2).trans p1).trans ab
      refine ht i hi B hHB _ fun H6 e6 => ?_
      have hH6 := hHB.trans e6
      have p16 := (p1.trans ab).trans e6
      have old : ∀ (k : Nat) (d : β) (v : V), (part f b i)[k]? = some d → acc[k]? = some v → ∀ H3, Ex H H3 → (∀ a o, a ≠ D → H1 a = none → H6 a = some o → H3 a = some o) → Rb d v H3 := fun k d v h1 h2 H3 h3 keep => p5 k d v h1 h2 H3 h3 fun a o hne hn ha => keep a o hne hn (e6 _ _ (ab _ _ ha))
      rw [part_succ]
      cases hf : f i with
      | false =>
        rw [if_neg (show ¬ (false = true) by decide), if_neg (show ¬ (false = true) by decide), List.append_nil]
        exact ⟨p16, acc, e6 _ _ (ab _ _ p3), p4, by omega, old⟩
      | true =>
        rw [if_pos rfl, if_pos rfl]
        refine he i hi hf H6 hH6 _ fun v C eC hv => ⟨acc, eC _ _ (e6 _ _ (ab _ _ p3)), sz_lt (by omega), (p16.trans eC).mut hD, acc ++ [v], upd_same, by rw [List.length_append, List.length_append, p4] <;> rfl, by rw [List.length_append] <;> exact Nat.succ_le_succ pl, fun k d u hd hk H3 h3 keep => ?_⟩
        have at4 : ∀ a o, a ≠ D → H1 a = none → C a = some o → H3 a = some o := fun a o hne hn hc => keep a o hne hn (by rw [upd_ne hne]; exact hc)
        rcases snoc_at hk with ⟨hlt, hk⟩ | ⟨rfl, rfl⟩
        · rw [p4] at hlt
          rw [List.getElem?_append_left hlt] at hd
          exact old k d u hd hk H3 h3 fun a o hne hn ha => at4 a o hne hn (eC _ _ ha)
        · rw [p4, List.getElem?_append_right (Nat.le_refl _), Nat.sub_self] at hd
          cases hd
          refine hv H3 h3 fun a o hb hc => at4 a o (fun z => ?_) (fresh_back ((e2.trans p16)) hb) hc
          rw [z, e6 _ _ (ab _ _ p3)] at hb
          cases hb)
    (fun H' p => by
      obtain ⟨p1, acc, p3, p4, _, p5⟩ := p
      exact q D acc H' (fresh_back e2 hD) (e2.trans p1) p3 fun H3 h3 keep => ⟨p4, fun k d v hd hv => p5 k d v hd hv H3 h3 keep⟩)
theorem dpa_row2 {β : Type} {d : β → PyData} {Rb : β → V → Hp → Prop} {H : Hp} (h : ∀ b v, Rb b v H → Dp K H v (d b)) : ∀ {bs : List β} {xs : List V}, Row2 Rb bs xs H → DpAll K H xs (bs.map d)
  | [], [], _ => .nil
  | [], _ :: _, r => by cases r.1
  | _ :: _, [], r => by cases r.1
  | b :: bs, x :: xs, r => .cons (h b x (r.2 0 b x rfl rfl)) (dpa_row2 h (bs := bs) (xs := xs) ⟨Nat.succ.inj r.1, fun k d v h1 h2 => r.2 (k + 1) d v h1 h2⟩)
end
end EnL
end S_Xk
section S_Ue
namespace P04
open PySem PySem.Spec PyProof.Rows L2 Tl Hk LamX EnL TL
abbrev nLT : List Str := ["turns", "row", "place"]
theorem scLText : FnScope nLT ["turns"] (defScope sLText) := ⟨rfl, rfl, rfl, by decide +kernel, rfl, by decide +kernel, by decide +kernel⟩
theorem bkX : BlkOk nLT { kind := .function, names := [(".0", .local), ("row", .local)], isGenerator := false, isCoroutine := false } { kind := .function, names := [(".0", .local), ("place", .local), ("str", .globalImplicit)], isGenerator := false, isCoroutine := false } [("place", 2)] := blkOk_by (by decide +kernel)
def spLText : Sp := fun vs H Q _ => ∃ (l : Addr) (ts : List (List Int)), vs = [.ref l] ∧ LL H l ts ∧ GoodT ts ∧ ts.length ≤ 8 ∧ ∀ H1, Evl.Ex H H1 → Q (.str (textOf ts)) H1
abbrev rJ (K : PySem.W.Frag) : V → List V → Hp → VK → Prop := fun x xs H Q => ∃ a p, ∃ ys : List Str, x = .str a ∧ xs = [.ref p] ∧ (SqL K H p (ys.map V.str) ∨ SqT K H p (ys.map V.str)) ∧ (ys.map (·.length)).sum + ys.length * a.length ≤ 16777216 ∧ Q (.str (Txt.join a ys)) H
theorem eqvI_nil (ns : List Int) : PyData.eqv (.list (ns.map PyData.int)) (.list []) = ns.isEmpty := by
  rw [eqv_nil]
  cases ns <;> rfl
theorem lay_ints : ∀ ns : List Int, PyData.canLayAll0 (ns.map PyData.int) = true
  | [] => rfl
  | x :: r => by
    show PyData.canLayAll0 (.int x :: r.map PyData.int) = true
    unfold PyData.canLayAll0
    rw [lay_ints r]
    rfl
theorem ints_shaped (ns : List Int) : SeqAt.shaped (.list (ns.map PyData.int)) = true := by
  unfold SeqAt.shaped
  have h1 : (PyData.list (ns.map PyData.int)).canLay0 = true := by unfold PyData.canLay0; exact lay_ints ns
  have h2 : (PyData.list (ns.map PyData.int)).depth ≤ 64 := by simp [PyData.depth, PySem.W.ke_depthAll]
  rw [h1, decide_eq_true h2] <;> rfl
section
open Evl
variable {K : PySem.W.Frag} {σ : L2.St} {H : Hp}
theorem ev_neNilV {ta : TE} {a : Addr} {ns : List Int} (h : Ev ta σ H (.ref a)) (ha : H a = some (.lst (ns.map V.int))) : Ev (tOp (rNeD K) ta (tLst tNil)) σ H (.bl (!ns.isEmpty)) := fun H1 e Q q =>
  h H1 e _ fun H2 e2 => ⟨Nat.zero_le _, fun p hp => by
    have eN := Ex.new (o := .lst []) hp
    refine ⟨.list (ns.map PyData.int), .list [], .lst (sq_of (eN _ _ (e2 _ _ (e _ _ ha)))) (dpa_ints ns), .lst (sq_of upd_same) .nil, ints_shaped ns, by decide, ?_⟩
    rw [eqvI_nil]
    exact q _ (e2.trans eN)⟩
theorem ev_eqNilV {ta : TE} {a : Addr} {ns : List Int} (h : Ev ta σ H (.ref a)) (ha : H a = some (.lst (ns.map V.int))) : Ev (tOp (rEqD K) ta (tLst tNil)) σ H (.bl ns.isEmpty) := fun H1 e Q q =>
  h H1 e _ fun H2 e2 => ⟨Nat.zero_le _, fun p hp => by
    have eN := Ex.new (o := .lst []) hp
    refine ⟨.list (ns.map PyData.int), .list [], .lst (sq_of (eN _ _ (e2 _ _ (e _ _ ha)))) (dpa_ints ns), .lst (sq_of upd_same) .nil, ints_shaped ns, by decide, ?_⟩
    rw [eqvI_nil]
    exact q _ (e2.trans eN)⟩
end
section
variable {P : Program} {w : World} {K : PySem.W.Frag} {mg : Str → Option Value} {base : Heap}
set_option maxHeartbeats 1000000 in
theorem ok_lText {f : Addr} {fd : FuncData} {k : Nat} (F : Fun K "_law_text" "_law_text" sLText f fd) (mstr : mg "str" = none) : FnOk P w K mg base CX0 (k + 1) f fd ["turns"] spLText := by
  refine F.ok scLText (fun vs H Q E h => ?_) (fun cdv A outer s H vs Q E hr h => ?_)
  · obtain ⟨l, ts, rfl, _⟩ := h
    rfl
  · obtain ⟨l, ts, rfl, hL, g, h8, q⟩ := h
    have nd := scLText.nd
    refine ⟨_, pss_one (ps_ret (pe_bm PySem.F.plainAttrs_str PySem.F.slot_str_join PySem.F.type_str_join mt_join pe_str (pa_cons
        (pe_lc (own := [("row", 1)]) (g := gName 1) (tt := tYes) (te := tIf (tTest (tOp (rNeD K) (tVar 1) (tLst tNil))) (tBM K "str" (rJ K) (tC (.str " ")) (tCons (tLc (iList K (tVar 1)) (gName 2) tYes (teS 2) [2]) tNil)) (tC (.str "-"))) rfl nd (pi_list (pv 0)) (blkOk_by (N := nLT) (sc := defScope sLText) (by decide +kernel)) (fun _ _ _ _ _ => pg_name (i := 1) nd rfl (Or.inl rfl)) (fun _ _ _ _ _ => pts_nil)
          (fun _ _ _ _ _ => pe_ifExp (pt_cmpR (op_neD hr.units) (pv 1) (pe_lst pa_nil) (nomark _)) (pe_bm PySem.F.plainAttrs_str PySem.F.slot_str_join PySem.F.type_str_join mt_join pe_str (pa_cons
            (pe_lc (own := [("place", 2)]) (wi := iList K (tVar 1)) (g := gName 2) (tt := tYes) (te := teS 2) rfl nd (pi_list (pv 1)) bkX (fun _ _ _ _ _ => pg_name (i := 2) nd rfl (Or.inl rfl)) (fun _ _ _ _ _ => pts_nil)
              (fun _ _ _ _ _ => pe_callTy call_str_int (by rfl) mstr (by decide +kernel) (pa_cons (pv 2) pa_nil))) pa_nil)) pe_str)) pa_nil))), ?_⟩
    obtain ⟨as, hl, ha, hrow⟩ := hL
    have gp := g.most
    have fine : ∀ ns ∈ ts, ns.length ≤ 1000 ∧ ∀ x ∈ ns, 0 ≤ x ∧ x ≤ 1000 := fun ns hns => by
      obtain ⟨i, hi⟩ := List.mem_iff_getElem?.mp hns
      obtain ⟨t1, t2, t3⟩ := g.pl i _ hi
      exact ⟨nodup_len (n := 1000) t1 t2, fun x hx => by have := t2 x hx; omega⟩
    have hm : ∀ y ∈ ts.map ttx, y.length ≤ 11000 := fun y hy => by
      obtain ⟨ns, hns, rfl⟩ := List.mem_map.mp hy
      exact ttx_len (fine ns hns).2 (fine ns hns).1
    refine Evl.s_ret (v := .str (textOf ts)) (ev_joinI (K := K) (ys := ts.map ttx) ?_ hm (by rw [List.length_map]; show ts.length * 11000 + ts.length * 3 ≤ 16777216; omega)) q
    have hh := el_lcI (te := tIf (tTest (tOp (rNeD K) (tVar 1) (tLst tNil))) (tBM K "str" (rJ K) (tC (.str " ")) (tCons (tLc (iList K (tVar 1)) (gName 2) tYes (teS 2) [2]) tNil)) (tC (.str "-"))) (t := tYes) (σ := start nLT [.ref l]) (H := H) (vs := [1]) (fun _ => true) (fun i => V.str (ttx (ts.getD i []))) (ei_list (K := K) (Evl.ev_var (i := 0) rfl) (Evl.sq_of hl)) (aims_at (j := 1)) (fun _ => rfl) (by rw [List.length_map]; omega) (fun _ _ _ _ => et_yes) fun i H1 e1 hi _ => by
      rw [List.length_map] at hi
      obtain ⟨a, ns, h1, h2⟩ := both_at ha hi
      have eg : ts.getD i [] = ns := by rw [List.getD_eq_getElem?_getD, h2]; rfl
      rw [eg]
      have hr1 := e1 _ _ (hrow i a ns h1 h2)
      have hf := fine ns (List.mem_of_getElem? h2)
      have ev : Evl.Ev (tVar 1) ((wipe (start nLT [V.ref l]) [1]).set 1 (some ((as.map V.ref).getD i .non))) H1 (.ref a) := Evl.ev_is (Evl.ev_var rfl) (refs_getD h1)
      refine Evl.ev_if (b := !ns.isEmpty) (Evl.et_test (ev_neNilV ev hr1)) (fun hb => ?_) (fun hb => ?_)
      · have e0 : (ns.map V.int).length = ns.length := List.length_map ..
        have hm2 : ∀ y ∈ ns.map (fun i => (toString i : Str)), y.length ≤ 10 := fun y hy => by
          obtain ⟨i, hi, rfl⟩ := List.mem_map.mp hy
          exact int_len (hf.2 i hi).1 (hf.2 i hi).2
        have hn : ns.isEmpty = false := by rwa [Bool.not_eq_true'] at hb
        have et : ttx ns = Txt.join " " (ns.map fun i => (toString i : Str)) := by unfold ttx; rw [if_neg (by rw [hn]; decide)]
        rw [et]
        refine ev_joinI (K := K) (ys := ns.map (fun i => (toString i : Str))) ?_ hm2 (by rw [List.length_map]; show ns.length * 10 + ns.length * 1 ≤ 16777216; omega)
        have h3 := el_lcI (te := teS 2) (t := tYes) (σ := (wipe (start nLT [V.ref l]) [1]).set 1 (some ((as.map V.ref).getD i .non))) (H := H1) (vs := [2]) (fun _ => true) (fun i => V.str (toString (ns.getD i 0))) (ei_list (K := K) ev (Evl.sq_of hr1)) (aims_at (j := 2)) (fun _ => rfl) (by omega) (fun _ _ _ _ => et_yes) fun j H2 e2 hj _ => by
          rw [e0] at hj
          have hd := hf.2 _ (List.getElem_mem hj)
          have eg : ns.getD j 0 = ns[j] := by rw [List.getD_eq_getElem?_getD, List.getElem?_eq_getElem hj]; rfl
          rw [eg]
          exact Evl.ev_cb (Evl.ea_cons (Evl.ev_is (Evl.ev_var rfl) (show (ns.map V.int).getD j .non = V.int ns[j] by rw [ints_getD hj, eg])) Evl.ea_nil) fun H3 e3 Q q => ⟨_, rfl, int_log hd.1 hd.2, q H3 (Evl.Ex.refl _)⟩
        rw [e0, given_all ns 0 (fun i => V.str (toString i))] at h3
        rw [List.map_map]
        exact h3
      · have hn : ns.isEmpty = true := by rwa [Bool.not_eq_false'] at hb
        exact Evl.ev_is Evl.ev_c (by unfold ttx; rw [if_pos hn])
    rw [List.length_map, ha, given_all ts [] (fun ns => V.str (ttx ns))] at hh
    rw [List.map_map]
    exact hh
end
end P04
end S_Ue
section S_Uf
namespace P04
open PySem PySem.Spec PyProof.Rows L2 Tl Hk LamX EnL TL
abbrev nLk : List Str := ["text", "items", "found", "at", "row", "number", "place", "other"]
theorem scLook : FnScope nLk ["text"] (defScope sLLook) := ⟨rfl, rfl, rfl, by decide +kernel, rfl, by decide +kernel, by decide +kernel⟩
def spLook : Sp := fun vs H Q _ => ∃ (s : Str), vs = [.str s] ∧ Tx s ∧ (∀ i, Rd (Txt.split s " ") (.error i) → ∀ p H1, Evl.Ex H H1 → H1 p = some (.tup [.non, .int (i : Int)]) → Q (.ref p) H1) ∧
  (∀ ts, Rd (Txt.split s " ") (.ok ts) → ∀ p F as H1, Tw H H1 F as ts → H1 p = some (.tup [.ref F, .non]) → Q (.ref p) H1)
abbrev teLn (K : PySem.W.Frag) (j : Nat) : TE := tCB (Evl.rLenS K) (tCons (tVar j) tNil)
abbrev ttBad (K : PySem.W.Frag) : L2.TT := tOr (tTest (tOp (rI0 fun i j => .bl (decide (j < i))) (tVar 7) (teLn K 2))) (tTest (tOp (rIn K true) (tOp (rI0 fun i j => .int (i + j)) (tVar 6) (tC (.int 1))) (tOp (rIxL K) (tVar 2) (tOp (rI0 fun i j => .int (i - j)) (tVar 7) (tC (.int 1))))))
theorem q_asg1 {te : TE} {g : TG} {tz : TS} {D : Ends} {σ : L2.St} {H : Hp} (h : te σ H fun x H1 => g x σ H1 fun σ1 H2 => tz D σ1 H2) : tSeq (tAsg te g) tz D σ H := h
theorem _root_.EnL.Tw.down {H0 H1 H : Hp} {A : Addr} {as : List Addr} {ts : List (List Int)} (w : Tw H1 H A as ts) (e : Evl.Ex H0 H1) : Tw H0 H A as ts := ⟨e.trans w.ex, w.lst, Evl.fresh_back e w.nA, w.len, w.nd, fun i a ns p q => by
  obtain ⟨r1, r2, r3⟩ := w.row i a ns p q
  exact ⟨r1, Evl.fresh_back e r2, r3⟩⟩
theorem _root_.EnL.Tw.aside {H0 H : Hp} {A r : Addr} {as : List Addr} {ts : List (List Int)} {o : HO} (w : Tw H0 H A as ts) (h0 : H0 r = none) (h1 : r ≠ A) (h2 : r ∉ as) : Tw H0 (upd H r o) A as ts := ⟨w.ex.mut h0, by rw [upd_ne h1.symm]; exact w.lst, w.nA, w.len, w.nd, fun i a ns p q => by
  obtain ⟨r1, r2, r3⟩ := w.row i a ns p q
  refine ⟨r1, r2, ?_⟩
  rw [upd_ne (fun e => h2 (by rw [← e]; exact List.mem_of_getElem? p))]
  exact r3⟩
/-- where the law's walk stands at the item k, with rows closed -/
def Top (its : List Str) (pa : Except Nat (List (List Int))) (k : Nat) (ts : List (List Int)) : Prop := (ts = [] ∧ k = 0) ∨ ∃ done row c, ts = done ++ [row] ∧ ts.length ≤ 1000 ∧ par (its.drop k) k done row true c = pa ∧ (c = true ∨ k = its.length ∨ its[k]? = some ("/" : Str))
def LkSt (z : Str) (l F : Addr) (its : List Str) (pa : Except Nat (List (List Int))) (Hb : Hp) (k : Nat) (σ' : L2.St) (H' : Hp) : Prop := ∃ ts as y4 y5 y6 y7, σ' = [some (.str z), some (.ref l), some (.ref F), some (.int (k : Int)), y4, y5, y6, y7] ∧ Tw Hb H' F as ts ∧ k ≤ its.length ∧ Top its pa k ts
theorem drop_at {its : List Str} {k : Nat} {x : Str} (h : its[k]? = some x) : its.drop k = x :: its.drop (k + 1) := by
  obtain ⟨hk, e⟩ := List.getElem?_eq_some_iff.mp h
  rw [List.drop_eq_getElem_cons hk, e]
section
variable {P : Program} {w : World} {K : PySem.W.Frag} {mg : Str → Option Value} {base : Heap}
set_option maxHeartbeats 4000000 in
theorem ok_look {f fN : Addr} {fd fdN : FuncData} {k : Nat} (F : Fun K "_law_look" "_law_look" sLLook f fd)
    (FN : Fun K "_law_number" "_law_number" sLNumber fN fdN) (GN : FnOk P w K mg base CX0 k fN fdN ["item"] spLNumber) (bN : Binds K fdN ["item"] []) (gN : mg "_law_number" = some (.ref fN))
    (mlen : mg "len" = none) (menum : mg "enumerate" = none) : FnOk P w K mg base CX0 (k + 1) f fd ["text"] spLook := by
  refine F.ok scLook (fun vs H Q E h => ?_) (fun cdv A outer s H vs Q E hr h => ?_)
  · obtain ⟨z, rfl, _⟩ := h
    rfl
  · obtain ⟨z, rfl, hz, hno, hyes⟩ := h
    have nd := scLook.nd
    refine ⟨_, pss_cons (ps_asg (pe_tup (pa_cons (pe_bm PySem.F.plainAttrs_str PySem.F.slot_str_split PySem.F.type_str_split mt_split (pv 0) (pa_cons pe_str pa_nil)) (pa_cons (pe_lst pa_nil) (pa_cons pe_int pa_nil))))
        (pg_tup (by rfl) (pgs_cons (pg_name (i := 1) nd rfl (Or.inl rfl)) (pgs_cons (pg_name (i := 2) nd rfl (Or.inr rfl)) (pgs_cons (pg_name (i := 3) nd rfl (Or.inl rfl)) pgs_nil)))))
      (pss_cons (ps_while PassesOwn.never (pt_cmpR op_lt (pv 3) (pe_callB call_len_seq (by rfl) mlen PySem.boot_len (pa_cons (pv 1) pa_nil)) (nomark _))
        (Evl.pss_cut (ps_if (pt_cmpR op_gt (pe_callB call_len_seq (by rfl) mlen PySem.boot_len (pa_cons (pv 2) pa_nil)) pe_int (nomark _))
            (pss_cons (ps_if (PW.pt (pw_or (pt_cmpR op_ne (pe_ix ix_list (pv 1) (pv 3) (fun _ _ => rfl)) pe_str (nomark _)) (pw_or1 (pt_cmpR op_eq (pe_callB call_len_seq (by rfl) mlen PySem.boot_len (pa_cons (pv 2) pa_nil)) pe_int (nomark _)))))
              (pss_one (ps_ret (pe_tup (pa_cons pe_non (pa_cons (pv 3) pa_nil))))) pss_nil)
            (pss_one (ps_set (i := 3) nd rfl (.inl rfl) (pe_op op_add (pv 3) pe_int)))) pss_nil)
        (pss_cons (ps_set (i := 4) nd rfl (.inl rfl) (pe_lst pa_nil))
        (Evl.pss_cut (ps_if (PW.pt (pw_and (pt_cmpR op_lt (pv 3) (pe_callB call_len_seq (by rfl) mlen PySem.boot_len (pa_cons (pv 1) pa_nil)) (nomark _)) (pw_and1 (pt_cmpR op_eq (pe_ix ix_list (pv 1) (pv 3) (fun _ _ => rfl)) pe_str (nomark _)))))
            (pss_one (ps_set (i := 3) nd rfl (.inl rfl) (pe_op op_add (pv 3) pe_int)))
            (pss_one (ps_while PassesOwn.never (PW.pt (pw_or (pt_cmpR (op_eqD hr.units) (pv 4) (pe_lst pa_nil) (nomark _)) (pw_or1 (PW.pt (pw_and (pt_cmpR op_lt (pv 3) (pe_callB call_len_seq (by rfl) mlen PySem.boot_len (pa_cons (pv 1) pa_nil)) (nomark _)) (pw_and1 (pt_cmpR op_ne (pe_ix ix_list (pv 1) (pv 3) (fun _ _ => rfl)) pe_str (nomark _))))))))
              (pss_cons (ps_set (i := 5) nd rfl (.inl rfl) (pe_ifExp (pt_cmpR op_lt (pv 3) (pe_callB call_len_seq (by rfl) mlen PySem.boot_len (pa_cons (pv 1) pa_nil)) (nomark _)) (pe_call GN hr (by rfl) gN FN.kp bN .nil pass0 (pa_cons (pe_ix ix_list (pv 1) (pv 3) (fun _ _ => rfl)) pa_nil)) pe_non))
              (pss_cons (ps_if (PW.pt (pw_or (pt_cmpR op_isN (pv 5) pe_non (nomark _)) (pw_or (pt_cmpR op_eq (pv 5) (pe_op op_add (pe_callB call_len_seq (by rfl) mlen PySem.boot_len (pa_cons (pv 2) pa_nil)) pe_int) (nomark _)) (pw_or1 (pt_cmpR op_in_seq (pv 5) (pv 4) (by with_unfolding_all rfl))))))
                (pss_one (ps_ret (pe_tup (pa_cons pe_non (pa_cons (pv 3) pa_nil))))) pss_nil)
              (pss_cons (ps_expr (pe_bm PySem.F.plainAttrs_list PySem.F.slot_list_append PySem.F.type_list_append mt_append (pv 4) (pa_cons (pv 5) pa_nil)))
              (pss_one (ps_set (i := 3) nd rfl (.inl rfl) (pe_op op_add (pv 3) pe_int)))))))))
        (pss_one (ps_expr (pe_bm PySem.F.plainAttrs_list PySem.F.slot_list_append PySem.F.type_list_append mt_append (pv 2) (pa_cons (pv 4) pa_nil))))))))
      (pss_cons (ps_for PassesOwn.never rfl (pi_enum (by rfl) menum (pa_cons (pv 2) pa_nil)) (pg_tup (by rfl) (pgs_cons (pg_name (i := 6) nd rfl (Or.inr rfl)) (pgs_cons (pg_name (i := 4) nd rfl (Or.inl rfl)) pgs_nil)))
        (pss_one (ps_if (pt_cmpR (op_neD hr.units) (pe_lc (own := [("other", 7)]) (g := gName 7) (tt := ttBad K) (te := tVar 7) rfl nd (pi_list (pv 4)) (blkOk_by (N := nLk) (sc := defScope sLLook) (by decide +kernel)) (fun _ _ _ _ _ => pg_name (i := 7) nd rfl (Or.inl rfl))
              (fun _ _ _ _ _ => pts_one (PW.pt (pw_or (pt_cmpR op_gt (pv 7) (pe_callB call_len_seq (by rfl) mlen PySem.boot_len (pa_cons (pv 2) pa_nil)) (nomark _)) (pw_or1 (pt_cmpR op_notIn_seq (pe_op op_add (pv 6) pe_int) (pe_ix ix_list (pv 2) (pe_op op_sub (pv 7) pe_int) (fun _ _ => rfl)) (by with_unfolding_all rfl))))))
              (fun _ _ _ _ _ => pv 7)) (pe_lst pa_nil) (nomark _))
          (pss_one (ps_ret (pe_tup (pa_cons pe_non (pa_cons (pe_op op_sub (pe_callB call_len_seq (by rfl) mlen PySem.boot_len (pa_cons (pv 1) pa_nil)) pe_int) pa_nil))))) pss_nil)))
      (pss_one (ps_ret (pe_tup (pa_cons (pv 2) (pa_cons pe_non pa_nil))))))), ?_⟩
    have hI := hz.its
    have hlen := hI.1
    have hz2 := hz.len
    obtain ⟨its, hits⟩ : ∃ its, Txt.split z " " = its := ⟨_, rfl⟩
    have hne : its ≠ [] := hits ▸ split_ne z
    have hasc : ∀ s ∈ its, Asc s := hits ▸ asc_split hz.asc
    rw [hits] at hno hyes hI hlen
    obtain ⟨pa, hpa⟩ : ∃ pa, parse its = pa := ⟨_, rfl⟩
    have hmap : (its.map V.str).length = its.length := List.length_map ..
    refine q_asg1 (tup_go (cons_any ⟨.str z, rfl, rfl, z, " ", rfl, rfl, by decide, by rw [sizeLine_eq]; omega, fun l hl => ?_⟩))
    rw [hits]
    refine cons_any (lst_go ⟨Nat.zero_le _, fun F hF => ?_⟩)
    refine ⟨by show 3 ≤ sizeLine; decide, fun p hp => ⟨p, _, rfl, Evl.st_of upd_same, rfl, .ref l, _, rfl, .ref F, _, rfl, .int 0, _, rfl, rfl, ?_⟩⟩
    have eb := Evl.Ex.new (o := .lst (its.map V.str)) hl
    have pF : F ≠ p := fun e => by rw [← e, upd_same] at hp; cases hp
    have w0 : Tw (upd H l (.lst (its.map V.str))) (upd (upd (upd H l (.lst (its.map V.str))) F (.lst [])) p (.tup [.ref l, .ref F, .int 0])) F [] [] :=
      ⟨(Evl.Ex.new hF).trans (Evl.Ex.new hp), by rw [upd_ne pF, upd_same]; rfl, hF, rfl, List.nodup_nil, fun i a ns h => by simp at h⟩
    have hlb : upd H l (.lst (its.map V.str)) l = some (.lst (its.map V.str)) := upd_same
    generalize upd (upd (upd H l (.lst (its.map V.str))) F (.lst [])) p (.tup [.ref l, .ref F, .int 0]) = H0 at w0
    generalize upd H l (.lst (its.map V.str)) = Hb at w0 eb hlb
    clear hF hp pF hl
    dsimp only
    have lenI : ∀ {σ : L2.St} {G : Hp}, Evl.Ex Hb G → σ[1]? = some (some (.ref l)) → Evl.Ev (teLn K 1) σ G (.int (its.length : Int)) := fun e h => Evl.ev_is (Evl.ev_len (Evl.ev_var h) (Evl.sq_of (e _ _ hlb))) (by rw [hmap])
    have lenF : ∀ {σ : L2.St} {G : Hp} {as : List Addr} {ts : List (List Int)}, Tw Hb G F as ts → σ[2]? = some (some (.ref F)) → Evl.Ev (teLn K 2) σ G (.int (ts.length : Int)) := fun w h => Evl.ev_is (Evl.ev_len (Evl.ev_var h) (Evl.sq_of w.lst)) (by rw [List.length_map, w.len])
    have ixI : ∀ {σ : L2.St} {G : Hp} {k : Nat} {x : Str}, Evl.Ex Hb G → σ[1]? = some (some (.ref l)) → σ[3]? = some (some (.int (k : Int))) → its[k]? = some x → Evl.Ev (tOp (rIxL K) (tVar 1) (tVar 3)) σ G (.str x) := fun e h1 h3 hx => Evl.ev_op (Evl.ev_var h1) (Evl.ev_var h3) (Evl.rv_ixL (Evl.sq_of (e _ _ hlb)) (atI_nat (by rw [List.getElem?_map, hx]; rfl)))
    have ltI : ∀ {σ : L2.St} {G : Hp} {k : Nat}, Evl.Ex Hb G → σ[1]? = some (some (.ref l)) → σ[3]? = some (some (.int (k : Int))) → Evl.EvT (tTest (tOp (rI0 fun i j => .bl (decide (i < j))) (tVar 3) (teLn K 1))) σ G (decide (k < its.length)) := fun e h1 h3 => Evl.et_is (Evl.et_test (Evl.ev_op (Evl.ev_var h3) (lenI e h1) Evl.rv_I0)) (decide_eq_decide.mpr ⟨fun h => by omega, fun h => by omega⟩)
    have eqs : ∀ x t : Str, decide (V.str x = V.str t) = decide (x = t) := fun x t => decide_eq_decide.mpr ⟨fun y => V.str.inj y, fun y => congrArg V.str y⟩
    have retE : ∀ {σ : L2.St} {G : Hp} {k : Nat} {D : Ends}, D.rt = Q → Evl.Ex Hb G → σ[3]? = some (some (.int (k : Int))) → pa = .error k → tRet (tTup (tCons (tC .non) (tCons (tVar 3) tNil))) D σ G := fun {σ G k D} hD e h3 he => Evl.s_retU (Evl.eu_tup (Evl.ea_cons Evl.ev_c (Evl.ea_cons (Evl.ev_var h3) Evl.ea_nil)) (by show 2 ≤ 100000; decide)) fun p H5 hp e5 h5 => by
      rw [hD]
      exact hno k (.err (hpa.trans he)) p H5 ((eb.trans e).trans e5) h5
    refine Evl.q_while (fun m σ' H' => ∃ k, m = its.length - k ∧ LkSt z l F its pa Hb k σ' H') its.length ⟨0, rfl, [], [], _, _, _, _, rfl, w0, Nat.zero_le _, .inl ⟨rfl, rfl⟩⟩ ?_
    rintro m σ' H' ⟨k, rfl, ts, as, y4, y5, y6, y7, rfl, w, hk, htop⟩
    refine ⟨decide (k < its.length), ltI w.ex rfl rfl, fun hb H1 e1 => ?_, fun hb H1 e1 => ?_⟩
    · have hk2 := of_decide_eq_true hb
      refine ⟨fun σ2 H2 => ∃ k2, k < k2 ∧ LkSt z l F its pa Hb k2 σ2 H2, fun σ2 H2 ⟨k2, h1, h2⟩ => ⟨its.length - k2, by omega, k2, rfl, h2⟩, ?_⟩
      have w1 := w.up e1
      have hx : its[k]? = some its[k] := List.getElem?_eq_getElem hk2
      refine Evl.q_cut (M := fun σ2 H2 => ∃ k2 done as y4 y5 y6 y7, σ2 = [some (.str z), some (.ref l), some (.ref F), some (.int ((k2 : Nat) : Int)), y4, y5, y6, y7] ∧ Tw Hb H2 F as done ∧ k ≤ k2 ∧ k2 ≤ its.length ∧ par (its.drop k2) k2 done [] false false = pa ∧ done.length < 1000) ?_ ?_
      · refine Evl.s_when (b := decide (0 < ts.length)) (Evl.et_is (Evl.et_test (Evl.ev_op (lenF w1 rfl) Evl.ev_c Evl.rv_I0)) (decide_eq_decide.mpr ⟨fun h => by omega, fun h => by omega⟩)) (fun hc H2 e2 => ?_) (fun hc H2 e2 => ?_)
        · have w2 := w1.up e2
          rcases htop with ⟨rfl, _⟩ | ⟨done, row, c, rfl, hl, hp, hsl⟩
          · exact absurd (of_decide_eq_true hc) (by decide)
          rw [drop_at hx] at hp
          rw [hx] at hsl
          generalize its[k] = x at hx hp hsl
          unfold par at hp
          refine Evl.q_when (b := !decide (x = "/") || decide ((done ++ [row]).length = 1000)) (Evl.et_or (Evl.et_is (Evl.et_test (Evl.ev_op (ixI w2.ex rfl rfl hx) Evl.ev_c (Evl.rv_ne rfl))) (by rw [eqs])) fun _ => Evl.et_is (Evl.et_test (Evl.ev_op (lenF w2 rfl) Evl.ev_c (Evl.rv_eq rfl))) (decide_eq_decide.mpr ⟨fun h => by have := V.int.inj h; omega, fun h => by rw [h]; rfl⟩)) (fun hd H3 e3 => ?_) (fun hd H3 e3 => ?_)
          · refine retE rfl (w2.up e3).ex rfl ?_
            have c1 : ¬(decide (x = "/") && (true && decide (done.length + 1 < 1000))) = true := fun h => by
              rw [Bool.and_eq_true_iff, Bool.and_eq_true_iff] at h
              have h1 := of_decide_eq_true h.2.2
              rw [h.1, Bool.not_true, Bool.false_or, decide_eq_true_eq, List.length_append, List.length_singleton] at hd
              omega
            have c3 : (c || (decide (nm x = none) || (decide (nm x = some ((done.length + 1 : Nat) : Int)) || row.any fun p => decide (nm x = some p)))) = true := by
              rcases hsl with rfl | h | h
              · rfl
              · omega
              · rw [Option.some.inj h, nm_sl, decide_eq_true rfl, Bool.true_or, Bool.or_true]
            rw [if_neg c1, if_neg (by simp), if_pos c3] at hp
            exact hp.symm
          · rw [Bool.or_eq_false_iff, Bool.not_eq_false', decide_eq_true_eq] at hd
            have hd2 := of_decide_eq_false hd.2
            rw [List.length_append, List.length_singleton] at hd2 hl
            rw [if_pos (by rw [decide_eq_true hd.1, decide_eq_true (show done.length + 1 < 1000 by omega)]; rfl)] at hp
            refine Evl.s_asg (v := .int ((k + 1 : Nat) : Int)) (Evl.ev_is (Evl.ev_op (Evl.ev_var rfl) Evl.ev_c Evl.rv_I0) (by congr 1)) fun H4 e4 => ?_
            exact ⟨k + 1, done ++ [row], as, _, _, _, _, rfl, (w2.up e3).up e4, by omega, by omega, hp, by rw [List.length_append, List.length_singleton]; omega⟩
        · rcases htop with ⟨rfl, rfl⟩ | ⟨done, row, c, rfl, _⟩
          · exact ⟨0, [], as, _, _, _, _, rfl, w1.up e2, Nat.le_refl _, Nat.zero_le _, hpa, by decide⟩
          · rw [List.length_append, List.length_singleton] at hc
            exact absurd (of_decide_eq_false hc) (by omega)
      · clear htop w w1 hx as ts y4 y5 y6 y7
        rintro σ2 H2 ⟨k2, done, as, y4, y5, y6, y7, rfl, w2, kk, hk3, hp, hd9⟩
        refine asg_go (lst_go ⟨Nat.zero_le _, fun r hr => ?_⟩)
        obtain ⟨rF, ras⟩ := w2.notin hr
        have rb := Evl.fresh_back w2.ex hr
        have w3 := w2.up (Evl.Ex.new (o := .lst []) hr)
        have hr3 : upd H2 r (.lst []) r = some (.lst (([] : List Int).map V.int)) := upd_same
        generalize upd H2 r (.lst []) = H3 at w3 hr3
        dsimp only
        refine Evl.q_cut (M := fun σ4 H4 => ∃ k4 row c y5 y6 y7, σ4 = [some (.str z), some (.ref l), some (.ref F), some (.int ((k4 : Nat) : Int)), some (.ref r), y5, y6, y7] ∧ Tw Hb H4 F as done ∧ H4 r = some (.lst (row.map V.int)) ∧ k < k4 ∧ k4 ≤ its.length ∧ par (its.drop k4) k4 done row true c = pa ∧ (c = true ∨ k4 = its.length ∨ its[k4]? = some ("/" : Str))) ?_ ?_
        · refine Evl.s_if (b := decide (k2 < its.length) && decide (its[k2]? = some ("-" : Str))) (Evl.et_and (ltI w3.ex rfl rfl) fun ha => ?_) (fun hb2 H4 e4 => ?_) (fun hb2 H4 e4 => ?_)
          · have ha2 := of_decide_eq_true ha
            have hx : its[k2]? = some its[k2] := List.getElem?_eq_getElem ha2
            refine Evl.et_is (Evl.et_test (Evl.ev_op (ixI w3.ex rfl rfl hx) Evl.ev_c (Evl.rv_eq rfl))) ?_
            rw [eqs, hx]
            exact decide_eq_decide.mpr ⟨fun h => congrArg some h, fun h => Option.some.inj h⟩
          · rw [Bool.and_eq_true_iff, decide_eq_true_eq, decide_eq_true_eq] at hb2
            rw [drop_at hb2.2] at hp
            unfold par at hp
            rw [if_neg (by rw [Bool.false_and, Bool.and_false]; decide), if_pos (by decide)] at hp
            refine Evl.s_asg (v := .int ((k2 + 1 : Nat) : Int)) (Evl.ev_is (Evl.ev_op (Evl.ev_var rfl) Evl.ev_c Evl.rv_I0) (by congr 1)) fun H5 e5 => ?_
            exact ⟨k2 + 1, [], true, _, _, _, rfl, (w3.up e4).up e5, e5 _ _ (e4 _ _ hr3), by omega, by omega, hp, .inl rfl⟩
          · -- a row of numbers
            have noMi : its[k2]? ≠ some ("-" : Str) := fun h => by
              have hk := (List.getElem?_eq_some_iff.mp h).1
              rw [h, decide_eq_true hk, decide_eq_true rfl] at hb2
              cases hb2
            have w4 := w3.up e4
            have hr4 := e4 _ _ hr3
            refine Evl.s_while (fun m σ5 H5 => ∃ k5 row y5 y6 y7, m = its.length - k5 ∧ σ5 = [some (.str z), some (.ref l), some (.ref F), some (.int ((k5 : Nat) : Int)), some (.ref r), y5, y6, y7] ∧ Tw Hb H5 F as done ∧ H5 r = some (.lst (row.map V.int)) ∧ k2 ≤ k5 ∧ k5 ≤ its.length ∧ (row = [] → k5 = k2) ∧ (row ≠ [] → k2 < k5) ∧ par (its.drop k5) k5 done row (!row.isEmpty) false = pa ∧ row.length ≤ k5)
              (its.length - k2) ⟨k2, [], _, _, _, rfl, rfl, w4, hr4, Nat.le_refl _, hk3, fun _ => rfl, fun h => absurd rfl h, hp, Nat.zero_le _⟩ ?_
            rintro m σ5 H5 ⟨k5, row, y5, y6, y7, rfl, rfl, w5, hr5, g1, g2, g3, g4, hp5, g5⟩
            have notR : Hb r = none := rb
            refine ⟨row.isEmpty || (decide (k5 < its.length) && !decide (its[k5]? = some ("/" : Str))), Evl.et_or (Evl.et_test (ev_eqNilV (Evl.ev_var rfl) hr5)) fun _ => Evl.et_and (ltI w5.ex rfl rfl) fun ha => ?_, fun hb5 H6 e6 => ?_, fun hb5 H6 e6 => ?_⟩
            · have ha2 := of_decide_eq_true ha
              have hx : its[k5]? = some its[k5] := List.getElem?_eq_getElem ha2
              refine Evl.et_is (Evl.et_test (Evl.ev_op (ixI w5.ex rfl rfl hx) Evl.ev_c (Evl.rv_ne rfl))) ?_
              rw [eqs, hx]
              congr 1
              exact decide_eq_decide.mpr ⟨fun h => congrArg some h, fun h => Option.some.inj h⟩
            · refine ⟨fun σ7 H7 => ∃ k7 row y5 y6 y7, k5 < k7 ∧ σ7 = [some (.str z), some (.ref l), some (.ref F), some (.int ((k7 : Nat) : Int)), some (.ref r), y5, y6, y7] ∧ Tw Hb H7 F as done ∧ H7 r = some (.lst (row.map V.int)) ∧ k2 ≤ k7 ∧ k7 ≤ its.length ∧ (row = [] → k7 = k2) ∧ (row ≠ [] → k2 < k7) ∧ par (its.drop k7) k7 done row (!row.isEmpty) false = pa ∧ row.length ≤ k7,
                fun σ7 H7 ⟨k7, row, y5, y6, y7, h1, h2, h3, h4, h5, h6, h⟩ => ⟨its.length - k7, by omega, k7, row, y5, y6, y7, rfl, h2, h3, h4, h5, h6, h⟩, ?_⟩
              have w6 := w5.up e6
              have hr6 := e6 _ _ hr5
              obtain ⟨o, ho⟩ : ∃ o : Option Int, o = (its[k5]?).bind nm := ⟨_, rfl⟩
              have nv : Evl.Ev (tIf (tTest (tOp (rI0 fun i j => .bl (decide (i < j))) (tVar 3) (teLn K 1))) (tCall spLNumber [] E0 (tCons (tOp (rIxL K) (tVar 1) (tVar 3)) tNil)) (tC .non)) [some (.str z), some (.ref l), some (.ref F), some (.int ((k5 : Nat) : Int)), some (.ref r), y5, y6, y7] H6 (numV o) := by
                refine Evl.ev_if (ltI w6.ex rfl rfl) (fun hc => ?_) (fun hc => ?_)
                · have hc := of_decide_eq_true hc
                  have hx : its[k5]? = some its[k5] := List.getElem?_eq_getElem hc
                  have hi := hI.2 _ (List.getElem_mem hc)
                  refine Evl.ev_is (Evl.ev_call (Evl.ea_cons (ixI w6.ex rfl rfl hx) Evl.ea_nil) (spv_lNumber hi.1 (by omega))) ?_
                  rw [ho, hx]
                  rfl
                · have hc := of_decide_eq_false hc
                  refine Evl.ev_is Evl.ev_c ?_
                  rw [ho, List.getElem?_eq_none (by omega)]
                  rfl
              refine Evl.q_asg nv fun H7 e7 => ?_
              have w7 := w6.up e7
              have hr7 := e7 _ _ hr6
              refine Evl.q_when (b := decide (o = none) || (decide (o = some ((done.length + 1 : Nat) : Int)) || row.any fun p => decide (o = some p))) (Evl.et_or (fun G e Q' q' => ⟨numV o, rfl, rfl, ?_⟩) fun hno2 => ?_) (fun hc H8 e8 => ?_) (fun hc H8 e8 => ?_)
              · have : decide (numV o = V.non) = decide (o = none) := by
                  cases o <;> rfl
                exact ⟨_, rfl, by rw [this]; exact q' G (Evl.Ex.refl _)⟩
              · obtain ⟨p, hpo⟩ : ∃ p, o = some p := by
                  cases e : o with
                  | none => rw [e] at hno2; cases hno2
                  | some p => exact ⟨p, rfl⟩
                clear ho nv
                subst hpo
                refine Evl.et_or (Evl.et_is (Evl.et_test (Evl.ev_op (x := .int p) (Evl.ev_var rfl) (Evl.ev_op (lenF w7 rfl) Evl.ev_c Evl.rv_I0) (Evl.rv_eq rfl))) (decide_eq_decide.mpr ⟨fun y => by rw [V.int.inj y]; rfl, fun y => by rw [Option.some.inj y]; rfl⟩)) fun _ => Evl.et_is (Evl.et_test (Evl.ev_op (x := .int p) (Evl.ev_var rfl) (Evl.ev_var rfl) (Evl.rv_inL (neg := false) (Evl.sq_of hr7) rfl (flat_ints _)))) ?_
                show inV (.int p) (row.map V.int) = _
                rw [in_ints, Bool.eq_iff_iff, List.any_eq_true, decide_eq_true_eq]
                exact ⟨fun h => ⟨p, h, decide_eq_true rfl⟩, fun ⟨q, h1, h2⟩ => by rw [Option.some.inj (of_decide_eq_true h2)]; exact h1⟩
              · refine retE rfl (w7.up e8).ex rfl ?_
                rcases Nat.lt_or_ge k5 its.length with hk5 | hk5
                · have hx : its[k5]? = some its[k5] := List.getElem?_eq_getElem hk5
                  rw [hx] at ho hb5
                  rw [drop_at hx] at hp5
                  have mi : row.isEmpty = true → its[k5] ≠ "-" := fun h e => by
                    have := g3 (List.isEmpty_iff.mp h)
                    subst this
                    exact noMi (by rw [hx, e])
                  generalize its[k5] = x at hx ho hp5 hb5 mi
                  have ho : o = nm x := ho
                  unfold par at hp5
                  rw [← ho] at hp5
                  have c1 : ¬(decide (x = "/") && ((!row.isEmpty) && decide (done.length + 1 < 1000))) = true := fun h => by
                    rw [Bool.and_eq_true_iff, Bool.and_eq_true_iff, Bool.not_eq_true'] at h
                    rw [h.2.1, of_decide_eq_true h.1, Bool.false_or, decide_eq_true (rfl : some ("/" : Str) = some ("/" : Str)), Bool.not_true, Bool.and_false] at hb5
                    cases hb5
                  have c2 : ¬(decide (x = "-") && !(!row.isEmpty)) = true := fun h => by
                    rw [Bool.and_eq_true_iff, Bool.not_not] at h
                    exact mi h.2 (of_decide_eq_true h.1)
                  rw [if_neg c1, if_neg c2, Bool.false_or, if_pos hc] at hp5
                  exact hp5.symm
                · have e5 : k5 = its.length := by omega
                  rw [decide_eq_false (by omega), Bool.false_and, Bool.or_false] at hb5
                  rw [e5, List.drop_length, hb5] at hp5
                  unfold par at hp5
                  rw [if_neg (by decide)] at hp5
                  rw [e5]
                  exact hp5.symm
              · rw [Bool.or_eq_false_iff, Bool.or_eq_false_iff] at hc
                have hk5 : k5 < its.length := by
                  rcases Nat.lt_or_ge k5 its.length with h | h
                  · exact h
                  · rw [List.getElem?_eq_none (by omega)] at ho
                    rw [ho] at hc
                    exact absurd hc.1 (by decide)
                have hx : its[k5]? = some its[k5] := List.getElem?_eq_getElem hk5
                rw [hx] at ho hb5
                rw [drop_at hx] at hp5
                have mi : row.isEmpty = true → its[k5] ≠ "-" := fun h e => by
                  have := g3 (List.isEmpty_iff.mp h)
                  subst this
                  exact noMi (by rw [hx, e])
                generalize its[k5] = x at hx ho hp5 hb5 mi
                have ho : o = nm x := ho
                unfold par at hp5
                rw [← ho] at hp5
                have c1 : ¬(decide (x = "/") && ((!row.isEmpty) && decide (done.length + 1 < 1000))) = true := fun h => by
                  rw [Bool.and_eq_true_iff, Bool.and_eq_true_iff, Bool.not_eq_true'] at h
                  rw [h.2.1, of_decide_eq_true h.1, Bool.false_or, decide_eq_true (rfl : some ("/" : Str) = some ("/" : Str)), Bool.not_true, Bool.and_false] at hb5
                  cases hb5
                have c2 : ¬(decide (x = "-") && !(!row.isEmpty)) = true := fun h => by
                  rw [Bool.and_eq_true_iff, Bool.not_not] at h
                  exact mi h.2 (of_decide_eq_true h.1)
                rw [if_neg c1, if_neg c2, Bool.false_or, if_neg (by rw [hc.1, hc.2.1, hc.2.2]; decide)] at hp5
                obtain ⟨p, hpo⟩ : ∃ p, o = some p := by
                  cases e : o with
                  | none => exact absurd e (of_decide_eq_false hc.1)
                  | some p => exact ⟨p, rfl⟩
                clear ho nv
                subst hpo
                have w8 := w7.up e8
                refine ⟨.ref r, rfl, .inl ⟨rfl, _, Evl.sq_of (e8 _ _ hr7)⟩, .int p, rfl, r, row.map V.int, .int p, rfl, rfl, e8 _ _ hr7, by rw [List.length_map, sizeLine_eq]; omega, ?_⟩
                have w9 := w8.aside (o := .lst (row.map V.int ++ [.int p])) rb rF ras
                dsimp only
                refine Evl.s_asg (v := .int ((k5 + 1 : Nat) : Int)) (Evl.ev_is (Evl.ev_op (Evl.ev_var rfl) Evl.ev_c Evl.rv_I0) (by congr 1)) fun H9 e9 => ?_
                have ne : (row ++ [p]).isEmpty = false := by cases row <;> rfl
                exact ⟨k5 + 1, row ++ [p], _, _, _, Nat.lt_succ_self _, rfl, w9.up e9, by rw [e9 _ _ upd_same, List.map_append]; rfl, by omega, by omega, fun h => absurd h (by simp), fun _ => by omega, by rw [ne]; exact hp5, by rw [List.length_append, List.length_singleton]; omega⟩
            · rw [Bool.or_eq_false_iff] at hb5
              have w6 := w5.up e6
              have hne5 : row ≠ [] := fun h => by rw [h] at hb5; exact absurd hb5.1 (by decide)
              rw [hb5.1] at hp5
              refine ⟨k5, row, false, _, _, _, rfl, w6, e6 _ _ hr5, by have := g4 hne5; omega, g2, hp5, ?_⟩
              rcases Nat.lt_or_ge k5 its.length with hk5 | hk5
              · right; right
                have := hb5.2
                rw [decide_eq_true hk5, Bool.true_and, Bool.not_eq_false', decide_eq_true_eq] at this
                exact this
              · right; left
                omega
        · rintro σ4 H4 ⟨k4, row, c, y5, y6, y7, rfl, w4, hr4, k5, k6, hp4, hs4⟩
          refine ⟨.ref F, rfl, .inl ⟨rfl, _, Evl.sq_of w4.lst⟩, .ref r, rfl, F, as.map V.ref, .ref r, rfl, rfl, w4.lst, by rw [List.length_map, w4.len, sizeLine_eq]; omega, ?_⟩
          exact ⟨k4, k5, done ++ [row], as ++ [r], _, _, _, _, rfl, w4.put hr4 rb rF ras, k6, .inr ⟨done, row, c, rfl, by rw [List.length_append, List.length_singleton]; omega, hp4, hs4⟩⟩
    · have hb2 := of_decide_eq_false hb
      obtain rfl : k = its.length := by omega
      rcases htop with ⟨_, h0⟩ | ⟨done, row, c, rfl, hl, hp, _⟩
      · exact absurd (List.length_eq_zero_iff.mp h0) hne
      rw [List.drop_length] at hp
      unfold par at hp
      rw [if_pos rfl] at hp
      obtain ⟨ts, hts⟩ : ∃ ts, done ++ [row] = ts := ⟨_, rfl⟩
      rw [hts] at hp hl w
      have hparse : parse its = .ok ts := hpa.trans hp.symm
      obtain ⟨eits, g⟩ := parse_back hasc hparse
      have hsum : (ts.map List.length).sum ≤ 30000 := by
        have h1 := sum_items (ts := ts)
        rw [← eits] at h1
        omega
      have w1 := w.up e1
      have hmapF : (as.map V.ref).length = ts.length := by rw [List.length_map, w.len]
      have g1 := g.most
      refine q_forB (B := H1) (eb_enum (Evl.ea_cons (Evl.ev_var (i := 2) rfl) Evl.ea_nil) (Evl.sq_of w1.lst)) aims_enum (Evl.Ex.refl _)
        (fun j σ2 H2 => ∃ y4 y6, σ2 = [some (.str z), some (.ref l), some (.ref F), some (.int ((its.length : Nat) : Int)), y4, y5, y6, y7] ∧ Evl.Ex H1 H2 ∧ ∀ i ns, i < j → ts[i]? = some ns → ∀ x ∈ ns, x ≤ (ts.length : Int) ∧ ∃ ms, ts[(x - 1).toNat]? = some ms ∧ ((i : Int) + 1) ∈ ms)
        (fun H2 e2 => ⟨_, _, rfl, e2, fun i ns hi => absurd hi (by omega)⟩) (fun j σ2 H2 _ ⟨_, _, _, e, _⟩ => e) ?_ ?_
      · rintro j σ2 H2 H3 hj ⟨z4, z6, rfl, e2, hall⟩ e3
        rw [hmapF] at hj
        have e13 := e2.trans e3
        have w3 := w1.up e13
        obtain ⟨a, ns, ha, hn⟩ := both_at w.len (show j < as.length by rw [w.len]; exact hj)
        obtain ⟨_, _, hrow⟩ := w3.row j a ns ha hn
        obtain ⟨n1, n2, n3⟩ := g.pl j ns hn
        have nl := nodup_len (n := 1000) n1 n2
        rw [refs_getD ha]
        have e0 : (ns.map V.int).length = ns.length := List.length_map ..
        have gi : ∀ i, i < ns.length → (ns.map V.int).getD i .non = .int (ns.getD i 0) ∧ 1 ≤ ns.getD i 0 := fun i hi => by
          refine ⟨ints_getD hi, ?_⟩
          rw [List.getD_eq_getElem?_getD, List.getElem?_eq_getElem hi]
          exact (n2 _ (List.getElem_mem hi)).1
        refine Evl.s_when (b := !(Evl.given ns.length (fun i => decide ((ts.length : Int) < ns.getD i 0) || !decide (((j : Int) + 1) ∈ ts.getD ((ns.getD i 0) - 1).toNat [])) fun i => V.int (ns.getD i 0)).isEmpty) (Evl.et_test (ev_neNilD (xs := Evl.given ns.length (fun i => decide ((ts.length : Int) < ns.getD i 0) || !decide (((j : Int) + 1) ∈ ts.getD ((ns.getD i 0) - 1).toNat [])) fun i => V.int (ns.getD i 0)) ?_ (Evl.el_lst Evl.ea_nil (Nat.zero_le _)) (fun v hv => ?_))) (fun hc H4 e4 => ?_) (fun hc H4 e4 => ?_)
        · rw [← e0]
          refine el_lcI (te := tVar 7) (t := ttBad K) (vs := [7]) _ _ (ei_list (K := K) (Evl.ev_var (i := 4) rfl) (Evl.sq_of hrow)) (aims_at (j := 7)) (fun _ => rfl) (by rw [e0]; omega) (fun i H4 e4 hi => ?_) (fun i H4 e4 hi _ => ?_)
          · rw [e0] at hi
            obtain ⟨v1, v2⟩ := gi i hi
            have w4 := w3.up e4
            refine Evl.et_or (Evl.et_test (Evl.ev_op (Evl.ev_is (Evl.ev_var rfl) v1) (lenF w4 rfl) Evl.rv_I0)) fun hx => ?_
            have hx := of_decide_eq_false hx
            generalize ns.getD i 0 = x at v1 v2 hx
            have hq : (x - 1).toNat < as.length := by rw [w.len]; omega
            obtain ⟨b, ms, hb1, hm⟩ := both_at w.len hq
            obtain ⟨_, _, hr4⟩ := w4.row _ b ms hb1 hm
            refine Evl.et_is (Evl.et_test (Evl.ev_op (Evl.ev_op (Evl.ev_var rfl) Evl.ev_c Evl.rv_I0) (Evl.ev_op (y := .int (x - 1)) (Evl.ev_var rfl) (Evl.ev_op (Evl.ev_is (Evl.ev_var rfl) v1) Evl.ev_c Evl.rv_I0) (Evl.rv_ixL (v := .ref b) (Evl.sq_of w4.lst) ?_)) (Evl.rv_inL (neg := true) (Evl.sq_of hr4) rfl (flat_ints _)))) ?_
            · rw [show x - 1 = (((x - 1).toNat : Nat) : Int) by omega]
              exact atI_nat (by rw [List.getElem?_map, hb1]; rfl)
            · show (!inV (.int ((j : Int) + 1)) (ms.map V.int)) = _
              rw [in_ints, List.getD_eq_getElem?_getD, hm]
              rfl
          · rw [e0] at hi
            exact Evl.ev_is (Evl.ev_var rfl) (gi i hi).1
        · unfold Evl.given at hv
          obtain ⟨i, _, rfl⟩ := List.mem_map.mp hv
          exact int_dps _
        · rw [Bool.not_eq_true'] at hc
          have hnT : ¬OkT ts := fun hT => by
            rw [given_empty] at hc
            have := (List.all_eq_false.mp hc)
            obtain ⟨i, hi, hf⟩ := this
            have hi := List.mem_range.mp hi
            have eg : ns.getD i 0 = ns[i] := by rw [List.getD_eq_getElem?_getD, List.getElem?_eq_getElem hi]; rfl
            obtain ⟨ms, m1, m2⟩ := hT.sym j ns ns[i] hn (List.getElem_mem hi)
            have hx := (hT.pl j ns hn).2.1 ns[i] (List.getElem_mem hi)
            rw [eg, List.getD_eq_getElem?_getD, m1, decide_eq_false (by omega), Bool.false_or] at hf
            exact hf (by rw [show decide ((j : Int) + 1 ∈ (some ms).getD []) = true from decide_eq_true m2]; rfl)
          refine Evl.s_retU (Evl.eu_tup (Evl.ea_cons Evl.ev_c (Evl.ea_cons (Evl.ev_is (Evl.ev_op (lenI (w3.up e4).ex rfl) Evl.ev_c Evl.rv_I0) (show V.int ((its.length : Int) - 1) = V.int ((its.length - 1 : Nat) : Int) by
            have : 1 ≤ its.length := by
              rcases Nat.eq_zero_or_pos its.length with h | h
              · exact absurd (List.length_eq_zero_iff.mp h) hne
              · exact h
            congr 1
            omega)) Evl.ea_nil)) (by show 2 ≤ 100000; decide)) fun p H5 hp5 e5 h5 => ?_
          exact hno _ (.bad hparse hnT) p H5 ((eb.trans (w3.up e4).ex).trans e5) h5
        · rw [Bool.not_eq_false', given_empty] at hc
          refine ⟨_, _, rfl, e13.trans e4, fun i ms hi hm x hx => ?_⟩
          rcases Nat.lt_or_ge i j with h | h
          · exact hall i ms h hm x hx
          · obtain rfl : i = j := by omega
            rw [hn] at hm
            cases hm
            obtain ⟨q, hq, rfl⟩ := List.mem_iff_getElem.mp hx
            have := List.all_eq_true.mp hc q (List.mem_range.mpr hq)
            have eg : ns.getD q 0 = ns[q] := by rw [List.getD_eq_getElem?_getD, List.getElem?_eq_getElem hq]; rfl
            rw [eg, Bool.not_eq_true', Bool.or_eq_false_iff, Bool.not_eq_false', decide_eq_true_eq] at this
            have h1 := of_decide_eq_false this.1
            have h2 := this.2
            have h3 := (n2 _ (List.getElem_mem hq)).1
            refine ⟨by omega, ?_⟩
            rw [List.getD_eq_getElem?_getD] at h2
            cases e : ts[(ns[q] - 1).toNat]? with
            | none => rw [e] at h2; exact nomatch h2
            | some ms => rw [e] at h2; exact ⟨ms, rfl, h2⟩
      · rintro σ2 H2 ⟨z4, z6, rfl, e2, hall⟩
        rw [hmapF] at hall
        have hT : OkT ts := ⟨g.pos, g.most, fun i ns hi => by
          obtain ⟨a, b, c⟩ := g.pl i ns hi
          exact ⟨a, fun x hx => ⟨(b x hx).1, (hall i ns (List.getElem?_eq_some_iff.mp hi).1 hi x hx).1⟩, c⟩, fun i ns o hi ho => (hall i ns (List.getElem?_eq_some_iff.mp hi).1 hi o ho).2, hsum⟩
        refine Evl.s_retU (Evl.eu_tup (Evl.ea_cons (Evl.ev_var rfl) (Evl.ea_cons Evl.ev_c Evl.ea_nil)) (by show 2 ≤ 100000; decide)) fun p H5 hp5 e5 h5 => ?_
        exact hyes ts (.ok hparse hT) p F as H5 (((w1.up e2).up e5).down eb) h5
end
end P04
end S_Uf
section S_Ug
namespace P04
open PySem PySem.Spec PyProof.Rows L2 Tl Hk LamX EnL TL
abbrev nBt : List Str := ["kiosk", "text", "items", "way", "at", "to", "odd", "item", "spot"]
theorem scBt : FnScope nBt ["kiosk", "text"] (defScope sLBent) := ⟨rfl, rfl, rfl, by decide +kernel, rfl, by decide +kernel, by decide +kernel⟩
def spBt : Sp := fun vs H Q _ => ∃ (t c : Addr) (s : Str) (n : Nat), vs = [.ref t, .str s] ∧ Tub H t c n ∧ n ≤ 900000 ∧ Asc s ∧ s.length ≤ 15000 ∧ ∀ (s' : Str) G, Kept t H G → Tub G t c (n + 6) → Asc s' → s'.length ≤ s.length + 400 → Q (.str s') G
def oddS : List Str := ["", "/", "-", "0", "1", "2", "3", "01", "-1", "+2", "1_0", "x", "1000", "1001", mulS "9" 140, "1\n", "--", "1/2"]
theorem odd_ok : ∀ s ∈ oddS, (∀ c ∈ tl s, c < 128) ∧ s.length ≤ 140 := by decide +kernel
abbrev tPick (K : PySem.W.Frag) (ta : TA) : TE := tCall (spPick K) [] E0 (tCons (tVar 0) (tCons (tLst ta) tNil))
theorem go_pick {K : PySem.W.Frag} {σ : L2.St} {G : Hp} {t c : Addr} {n m : Nat} {ta : TA} {R : V → Hp → Prop} {Q : VK} (mo : EnL.Mono R) (h0 : σ[0]? = some (some (.ref t))) (T : Tub G t c n) (hn : n < 1000000) (h : EvAF ta σ G m R) (m1 : 1 ≤ m) (m2 : m ≤ 1000)
    (q : ∀ v G', Kept t G G' → Tub G' t c (n + 1) → R v (nw G G') → Q v G') : tPick K ta σ G Q := by
  refine ⟨.ref t, h0, h G (Evl.Ex.refl G) _ fun vs G1 e1 l1 r1 => ⟨by rw [sizeLine_eq]; omega, fun l hl => ⟨t, c, l, vs, n, rfl, (T.ex e1).ex (Evl.Ex.new hl), hn, ((T.ex e1).ne hl).1, .inl (.inl upd_same), by omega, by omega, fun j v G' hj k T' => ?_⟩⟩⟩
  have kk : Kept t G G' := ((kept_ex e1).trans (kept_ex (Evl.Ex.new hl))).trans k
  refine q v G' kk T' (mo _ _ _ (fun a o ha => ?_) (r1 v (List.mem_of_getElem? hj)))
  obtain ⟨z1, z2⟩ := nw_at ha
  refine nw_of z1 (k _ _ (T.ne z1).1 ?_)
  rw [upd_ne (fun z => by rw [z, hl] at z2; cases z2)]
  exact z2
theorem q_par2 {i j : Nat} {t1 t2 : TE} {tz : TS} {D : Ends} {σ : L2.St} {H : Hp} (h : t1 σ H fun x H1 => t2 σ H1 fun y H2 => ∃ v w, [x, y] = [v, w] ∧ tz D ((σ.set i (some v)).set j (some w)) H2) : tSeq (tPar i j (tCons t1 (tCons t2 tNil))) tz D σ H := h
theorem go_way {D : Ends} {σ : L2.St} {G : Hp} {way j : Int} {t1 t2 : TS} (h3 : σ[3]? = some (some (.int way))) (yes : t1 D σ G) (no : t2 D σ G) : tIfS (tTest (tOp rEq (tVar 3) (tC (.int j)))) t1 t2 D σ G := by
  refine ⟨.int way, h3, rfl, decide (V.int way = V.int j), rfl, if_go (fun _ => yes) fun _ => no⟩
theorem wt_cut (its : List Str) {p q : Nat} (h : p ≤ q) : wt (its.take p) + wt (its.drop q) ≤ wt its := by
  have h1 := wt_app (its.take p) (its.drop p)
  rw [List.take_append_drop] at h1
  have h2 := wt_drop (its.drop p) (q - p)
  rw [List.drop_drop, show p + (q - p) = q by omega] at h2
  omega
theorem wt_set {l : List Str} {i : Nat} {v : Str} (h : i < l.length) : wt (l.set i v) + l[i].length = wt l + v.length := by
  have e : l = l.take i ++ l[i] :: l.drop (i + 1) := by rw [← List.drop_eq_getElem_cons h, List.take_append_drop]
  have e2 : l.set i v = l.take i ++ v :: l.drop (i + 1) := by rw [List.set_eq_take_append_cons_drop, if_pos h]
  have h1 : wt l = wt (l.take i) + (l[i].length + 1 + wt (l.drop (i + 1))) := by
    conv => lhs; rw [e]
    rw [wt_app, wt_cons]
  rw [e2, wt_app, wt_cons, h1]
  omega
theorem tl_cutTo (z : Str) (k : Nat) : tl (cutS z none (some (k : Int))) = (tl z).take k := by
  unfold cutS
  rw [HT.sIx_none, HT.sIx_nat]
  show ((tl z).drop 0).take (min k z.length - 0) = _
  rw [List.drop_zero, Nat.sub_zero]
  rcases Nat.le_total k z.length with h | h
  · rw [Nat.min_eq_left h]
  · rw [Nat.min_eq_right h, List.take_of_length_le (Nat.le_of_eq (tl_length z)), List.take_of_length_le (Nat.le_trans (Nat.le_of_eq (tl_length z)) h)]
theorem tl_cutFrom (z : Str) (k : Nat) : tl (cutS z (some (k : Int)) none) = (tl z).drop k := by
  unfold cutS
  rw [HT.sIx_none, HT.sIx_nat]
  show ((tl z).drop (min k z.length)).take (z.length - min k z.length) = _
  rcases Nat.le_total k z.length with h | h
  · rw [Nat.min_eq_left h]
    exact List.take_of_length_le (by rw [List.length_drop, tl_length]; exact Nat.le_refl _)
  · rw [Nat.min_eq_right h, List.drop_of_length_le (Nat.le_of_eq (tl_length z)), List.drop_of_length_le (Nat.le_trans (Nat.le_of_eq (tl_length z)) h), List.take_nil]
theorem asc_cutTo {z : Str} (h : Asc z) (k : Nat) : Asc (cutS z none (some (k : Int))) := fun c hc => by
  rw [tl_cutTo] at hc
  exact h c (List.mem_of_mem_take hc)
theorem asc_cutFrom {z : Str} (h : Asc z) (k : Nat) : Asc (cutS z (some (k : Int)) none) := fun c hc => by
  rw [tl_cutFrom] at hc
  exact h c (List.mem_of_mem_drop hc)
theorem asc_app {x y : Str} (h1 : Asc x) (h2 : Asc y) : Asc (x ++ y) := fun c hc => by
  rw [TL.tl_append] at hc
  exact (List.mem_append.mp hc).elim (h1 c) (h2 c)
/-- texts that may stand behind -/
def AddV (v : V) (H : Hp) : Prop := ∃ (b : Addr) (zs : List Str), v = .ref b ∧ H b = some (.lst (zs.map V.str)) ∧ (∀ s ∈ zs, Asc s) ∧ wt zs ≤ 300
theorem AddV.mono : EnL.Mono AddV := fun v H H' e ⟨b, zs, h1, h2, h3⟩ => ⟨b, zs, h1, e _ _ h2, h3⟩
theorem str_app_len (a b : Str) : (a ++ b).length = a.length + b.length := by
  rw [← tl_length, ← tl_length a, ← tl_length b, TL.tl_append, List.length_append]
def SgV (v : V) (H : Hp) : Prop := ∃ s : Str, v = .str s ∧ Asc s ∧ s.length ≤ 1
theorem SgV.mono : EnL.Mono SgV := fun v H H' e h => h
section
variable {P : Program} {w : World} {K : PySem.W.Frag} {mg : Str → Option Value} {base : Heap}
set_option maxHeartbeats 4000000 in
theorem ok_bt {f fS fP : Addr} {fd fdS fdP : FuncData} {k : Nat} (F : Fun K "_law_bent" "_law_bent" sLBent f fd)
    (FS : Fun K "_law_ticket" "_law_ticket" sScoop fS fdS) (GS : FnOk P w K mg base CX0 k fS fdS ["kiosk", "many"] spScoop) (bS : Binds K fdS ["kiosk", "many"] []) (gS : mg "_law_ticket" = some (.ref fS))
    (FP : Fun K "_law_pick" "_law_pick" sPick fP fdP) (GP : FnOk P w K mg base CX0 k fP fdP ["kiosk", "some"] (spPick K)) (bP : Binds K fdP ["kiosk", "some"] []) (gP : mg "_law_pick" = some (.ref fP))
    (mlen : mg "len" = none) : FnOk P w K mg base CX0 (k + 1) f fd ["kiosk", "text"] spBt := by
  refine F.ok scBt (fun vs H Q E h => ?_) (fun cdv A outer s H vs Q E hr h => ?_)
  · obtain ⟨t, c, z, n, rfl, _⟩ := h
    rfl
  · obtain ⟨t, c, z, n, rfl, T0, hn, hz, hl, q⟩ := h
    have nd := scBt.nd
    refine ⟨_, pss_cons (ps_par (i := 2) (j := 3) (by rfl) nd rfl rfl (by decide) rfl rfl (pa_cons (pe_bm PySem.F.plainAttrs_str PySem.F.slot_str_split PySem.F.type_str_split mt_split (pv 1) (pa_cons pe_str pa_nil)) (pa_cons (pe_call GS hr (by rfl) gS FS.kp bS .nil pass0 (pa_cons (pv 0) (pa_cons pe_int pa_nil))) pa_nil)) (by rfl))
      (pss_cons (ps_par (i := 4) (j := 5) (by rfl) nd rfl rfl (by decide) rfl rfl (pa_cons (pe_call GS hr (by rfl) gS FS.kp bS .nil pass0 (pa_cons (pv 0) (pa_cons (pe_callB call_len_seq (by rfl) mlen PySem.boot_len (pa_cons (pv 2) pa_nil)) pa_nil)))
          (pa_cons (pe_call GS hr (by rfl) gS FS.kp bS .nil pass0 (pa_cons (pv 0) (pa_cons (pe_callB call_len_seq (by rfl) mlen PySem.boot_len (pa_cons (pv 2) pa_nil)) pa_nil))) pa_nil)) (by rfl))
      (pss_cons (ps_set (i := 6) nd rfl (.inl rfl) (pe_lst (pa_cons pe_str (pa_cons pe_str (pa_cons pe_str (pa_cons pe_str (pa_cons pe_str (pa_cons pe_str (pa_cons pe_str (pa_cons pe_str (pa_cons pe_str (pa_cons pe_str (pa_cons pe_str (pa_cons pe_str (pa_cons pe_str (pa_cons pe_str (pa_cons (pe_op op_mulS pe_str pe_int) (pa_cons pe_str (pa_cons pe_str (pa_cons pe_str pa_nil))))))))))))))))))))
      (pss_cons (ps_set (i := 7) nd rfl (.inl rfl) (pe_call GP hr (by rfl) gP FP.kp bP .nil pass0 (pa_cons (pv 0) (pa_cons (pv 6) pa_nil))))
      (Evl.pss_cut (ps_if (pt_cmpR op_eq (pv 3) pe_int (nomark _)) (pss_one (ps_set (i := 2) nd rfl (.inl rfl) (pe_op op_cat (pe_op op_cat (pe_slice sl_list (pv 2) po_none (po_some (pv 4))) (pe_lst (pa_cons (pv 7) pa_nil))) (pe_slice sl_list (pv 2) (po_some (pe_op op_add (pv 4) pe_int)) po_none))))
        (pss_one (ps_if (pt_cmpR op_eq (pv 3) pe_int (nomark _)) (pss_one (ps_set (i := 2) nd rfl (.inl rfl) (pe_op op_cat (pe_slice sl_list (pv 2) po_none (po_some (pv 4))) (pe_slice sl_list (pv 2) (po_some (pe_op op_add (pv 4) pe_int)) po_none))))
        (pss_one (ps_if (pt_cmpR op_eq (pv 3) pe_int (nomark _)) (pss_one (ps_set (i := 2) nd rfl (.inl rfl) (pe_op op_cat (pe_op op_cat (pe_slice sl_list (pv 2) po_none (po_some (pv 4))) (pe_lst (pa_cons (pv 7) pa_nil))) (pe_slice sl_list (pv 2) (po_some (pv 4)) po_none))))
        (pss_one (ps_if (pt_cmpR op_eq (pv 3) pe_int (nomark _)) (pss_one (ps_asg (pe_tup (pa_cons (pe_ix ix_list (pv 2) (pv 5) (fun _ _ => rfl)) (pa_cons (pe_ix ix_list (pv 2) (pv 4) (fun _ _ => rfl)) pa_nil))) (pg_tup (by rfl) (pgs_cons (pg_sub (pv 2) (pv 4) set_list) (pgs_cons (pg_sub (pv 2) (pv 5) set_list) pgs_nil)))))
        (pss_one (ps_if (pt_cmpR op_eq (pv 3) pe_int (nomark _)) (pss_one (ps_set (i := 2) nd rfl (.inl rfl) (pe_slice sl_list (pv 2) po_none (po_some (pv 4)))))
        (pss_one (ps_if (pt_cmpR op_eq (pv 3) pe_int (nomark _)) (pss_one (ps_set (i := 2) nd rfl (.inl rfl) (pe_op op_cat (pv 2) (pe_call GP hr (by rfl) gP FP.kp bP .nil pass0 (pa_cons (pv 0) (pa_cons (pe_lst (pa_cons (pe_lst (pa_cons (pv 7) pa_nil)) (pa_cons (pe_lst (pa_cons pe_str pa_nil)) (pa_cons (pe_lst (pa_cons pe_str (pa_cons pe_str pa_nil))) (pa_cons (pe_lst (pa_cons pe_str (pa_cons pe_str pa_nil))) pa_nil))))) pa_nil))))))
        (pss_one (ps_if (pt_cmpR op_eq (pv 3) pe_int (nomark _)) (pss_cons (ps_set (i := 8) nd rfl (.inl rfl) (pe_call GS hr (by rfl) gS FS.kp bS .nil pass0 (pa_cons (pv 0) (pa_cons (pe_op op_add (pe_callB call_len_str (by rfl) mlen PySem.boot_len (pa_cons (pv 1) pa_nil)) pe_int) pa_nil))))
            (pss_one (ps_ret (pe_op op_add_str (pe_op op_add_str (pe_slice sl_str (pv 1) po_none (po_some (pv 8))) (pe_call GP hr (by rfl) gP FP.kp bP .nil pass0 (pa_cons (pv 0) (pa_cons (pe_lst (pa_cons pe_str (pa_cons pe_str (pa_cons pe_str (pa_cons pe_str (pa_cons pe_str (pa_cons pe_str pa_nil))))))) pa_nil)))) (pe_slice sl_str (pv 1) (po_some (pe_op op_add (pv 8) pe_int)) po_none))))) pss_nil)))))))))))))
      (pss_one (ps_ret (pe_bm PySem.F.plainAttrs_str PySem.F.slot_str_join PySem.F.type_str_join mt_join pe_str (pa_cons (pv 2) pa_nil)))))))), ?_⟩
    have hasc : ∀ s ∈ Txt.split z " ", Asc s := asc_split hz
    have hwt := wt_split z
    have hne := split_ne z
    obtain ⟨its, hits⟩ : ∃ its, Txt.split z " " = its := ⟨_, rfl⟩
    rw [hits] at hasc hwt hne
    have hpos : 1 ≤ its.length := by
      rcases Nat.eq_zero_or_pos its.length with h | h
      · exact absurd (List.length_eq_zero_iff.mp h) hne
      · exact h
    have hlen : its.length ≤ 15001 := by have := wt_len its; omega
    have hmap : (its.map V.str).length = its.length := List.length_map ..
    refine q_par2 ⟨.str z, rfl, rfl, z, " ", rfl, rfl, by decide, by rw [sizeLine_eq]; omega, fun l hl0 => ?_⟩
    rw [hits]
    have lt := (T0.ne hl0).1
    have T1 := T0.ex (Evl.Ex.new (o := .lst (its.map V.str)) hl0)
    have k1 : Kept t H _ := kept_ex (Evl.Ex.new (o := .lst (its.map V.str)) hl0)
    have hl1 : upd H l (.lst (its.map V.str)) l = some (.lst (its.map V.str)) := upd_same
    generalize upd H l (.lst (its.map V.str)) = H1 at T1 k1 hl1
    refine ⟨.ref t, rfl, t, c, 8, n, rfl, T1, by omega, by decide, by decide, fun way H2 _ _ k2 T2 => ⟨_, _, rfl, ?_⟩⟩
    have hl2 := k2 _ _ lt hl1
    refine q_par2 ⟨.ref t, rfl, (Evl.ev_len (K := K) (Evl.ev_var rfl) (Evl.sq_of hl2)) H2 (Evl.Ex.refl _) _ fun H3 e3 => ⟨t, c, _, n + 1, rfl, T2.ex e3, by omega, by rw [hmap]; omega, by rw [hmap]; omega, fun at_ H4 a0 a1 k4 T4 => ?_⟩⟩
    rw [hmap] at a1
    have hl4 := k4 _ _ lt (e3 _ _ hl2)
    refine ⟨.ref t, rfl, (Evl.ev_len (K := K) (Evl.ev_var rfl) (Evl.sq_of hl4)) H4 (Evl.Ex.refl _) _ fun H5 e5 => ⟨t, c, _, n + 1 + 1, rfl, T4.ex e5, by omega, by rw [hmap]; omega, by rw [hmap]; omega, fun to_ H6 b0 b1 k6 T6 => ⟨_, _, rfl, ?_⟩⟩⟩
    rw [hmap] at b1
    have hl6 := k6 _ _ lt (e5 _ _ hl4)
    obtain ⟨p, rfl⟩ : ∃ p : Nat, at_ = (p : Int) := ⟨at_.toNat, by omega⟩
    obtain ⟨r, rfl⟩ : ∃ r : Nat, to_ = (r : Int) := ⟨to_.toNat, by omega⟩
    have hp : p < its.length := by omega
    have hr' : r < its.length := by omega
    have kk6 : Kept t H H6 := (((k1.trans k2).trans (kept_ex e3)).trans k4).trans ((kept_ex e5).trans k6)
    dsimp only
    refine Evl.q_asgL (xs := oddS.map V.str) (Evl.el_lst (Evl.ea_cons Evl.ev_c (Evl.ea_cons Evl.ev_c (Evl.ea_cons Evl.ev_c (Evl.ea_cons Evl.ev_c (Evl.ea_cons Evl.ev_c (Evl.ea_cons Evl.ev_c (Evl.ea_cons Evl.ev_c (Evl.ea_cons Evl.ev_c (Evl.ea_cons Evl.ev_c (Evl.ea_cons Evl.ev_c (Evl.ea_cons Evl.ev_c (Evl.ea_cons Evl.ev_c (Evl.ea_cons Evl.ev_c (Evl.ea_cons Evl.ev_c
      (Evl.ea_cons (Evl.ev_op (x := .str "9") (y := .int 140) Evl.ev_c Evl.ev_c fun H1 e Q q => ⟨"9", 140, rfl, rfl, by decide, by decide, by decide, q H1 (Evl.Ex.refl _)⟩) (Evl.ea_cons Evl.ev_c (Evl.ea_cons Evl.ev_c (Evl.ea_cons Evl.ev_c Evl.ea_nil)))))))))))))))))) (by show 18 ≤ 100000; decide)) fun od H7 hod e7 h7 => ?_
    have odt := (T6.ne hod).1
    refine ⟨.ref t, rfl, .ref od, rfl, t, c, od, _, n + 1 + 1 + 1, rfl, T6.ex e7, by omega, odt, .inl (.inl h7), by show 1 ≤ 18; decide, by show 18 ≤ 10000; decide, fun j v G hj k8 T8 => ?_⟩
    obtain ⟨x, hx, rfl⟩ : ∃ x, x ∈ oddS ∧ v = .str x := by
      rw [List.getElem?_map] at hj
      obtain ⟨x, h1, rfl⟩ := Option.map_eq_some_iff.mp hj
      exact ⟨x, List.mem_of_getElem? h1, rfl⟩
    obtain ⟨xa, xl⟩ := odd_ok x hx
    have xa : Asc x := xa
    have hG := k8 _ _ lt (e7 _ _ hl6)
    have kG : Kept t H G := kk6.trans ((kept_ex e7).trans k8)
    clear hj hx h7 hod odt k8 e7 hl6 kk6 k6 e5 hl4 k4 e3 hl2 k2 hl1 k1 T1 T2 T4 T6
    dsimp only
    refine Evl.q_cut (M := fun σ' G' => ∃ pl ys, σ'[2]? = some (some (.ref pl)) ∧ G' pl = some (.lst (ys.map V.str)) ∧ (∀ s ∈ ys, Asc s) ∧ wt ys ≤ z.length + 400 ∧ Kept t H G' ∧ Tub G' t c (n + 6)) ?_ ?_
    · have T8' := T8.mono (show n + 1 + 1 + 1 + 1 ≤ n + 6 by omega)
      have sl : ∀ {σ : L2.St} {G' : Hp}, Evl.Ex G G' → σ[2]? = some (some (.ref l)) → σ[4]? = some (some (.int (p : Int))) → Evl.EvL (tSl (rSlL K) (tVar 2) tNoPart (tPart (tVar 4))) σ G' ((its.take p).map V.str) := fun e h2 h4 => by
        have := Evl.el_sl (K := K) (Evl.ev_var h2) Evl.eo_none (Evl.eo_some (Evl.ev_var h4)) (Evl.sq_of (e _ _ hG))
        rw [cutTo'] at this
        rw [List.map_take]
        exact this
      have sf : ∀ {σ : L2.St} {G' : Hp} {tp : TO} {m : Nat}, Evl.Ex G G' → σ[2]? = some (some (.ref l)) → Evl.EvO tp σ G' (some (m : Int)) → Evl.EvL (tSl (rSlL K) (tVar 2) tp tNoPart) σ G' ((its.drop m).map V.str) := fun e h2 h4 => by
        have := Evl.el_sl (K := K) (Evl.ev_var h2) h4 Evl.eo_none (Evl.sq_of (e _ _ hG))
        rw [cutFrom] at this
        rw [List.map_drop]
        exact this
      have p1 : ∀ {σ : L2.St} {G' : Hp}, σ[4]? = some (some (.int (p : Int))) → Evl.EvO (tPart (tOp (rI0 fun i j => .int (i + j)) (tVar 4) (tC (.int 1)))) σ G' (some ((p + 1 : Nat) : Int)) := fun h4 => Evl.eo_some (Evl.ev_is (Evl.ev_op (Evl.ev_var h4) Evl.ev_c Evl.rv_I0) (by simp))
      have xs1 : ∀ {σ : L2.St} {G' : Hp}, σ[7]? = some (some (.str x)) → Evl.EvL (tLst (tCons (tVar 7) tNil)) σ G' ([x].map V.str) := fun h7 => Evl.el_lst (Evl.ea_cons (Evl.ev_var h7) Evl.ea_nil) (by show 1 ≤ 100000; decide)
      have wx : wt [x] ≤ 141 := by rw [wt_cons]; show x.length + 1 + 0 ≤ _; omega
      have ax : ∀ s ∈ [x], Asc s := fun s hs => by rw [List.mem_singleton.mp hs]; exact xa
      have cat3 : ∀ {a b : List Str}, (∀ s ∈ a, Asc s) → (∀ s ∈ b, Asc s) → ∀ s ∈ a ++ b, Asc s := fun h1 h2 s hs => (List.mem_append.mp hs).elim (h1 s) (h2 s)
      have at_ : ∀ m, ∀ s ∈ its.take m, Asc s := fun m s hs => hasc s (List.mem_of_mem_take hs)
      have ad_ : ∀ m, ∀ s ∈ its.drop m, Asc s := fun m s hs => hasc s (List.mem_of_mem_drop hs)
      refine go_way rfl ?_ (go_way rfl ?_ (go_way rfl ?_ (go_way rfl ?_ (go_way rfl ?_ (go_way rfl ?_ (go_way rfl ?_ ?_))))))
      · refine Evl.s_asgL (xs := (its.take p ++ [x] ++ its.drop (p + 1)).map V.str) ?_ fun pl G' _ e' h' => ⟨pl, _, rfl, h', cat3 (cat3 (at_ _) ax) (ad_ _), ?_, kG.trans (kept_ex e'), T8'.ex e'⟩
        · rw [List.map_append, List.map_append]
          refine el_catN (el_catN (sl (Evl.Ex.refl _) rfl rfl) (xs1 rfl) ?_) (sf (Evl.Ex.refl _) rfl (p1 rfl)) ?_
          all_goals simp only [List.length_map, List.length_append, List.length_take, List.length_drop, List.length_singleton]; omega
        · have := wt_cut its (show p ≤ p + 1 by omega)
          rw [wt_app, wt_app]
          omega
      · refine Evl.s_asgL (xs := (its.take p ++ its.drop (p + 1)).map V.str) ?_ fun pl G' _ e' h' => ⟨pl, _, rfl, h', cat3 (at_ _) (ad_ _), ?_, kG.trans (kept_ex e'), T8'.ex e'⟩
        · rw [List.map_append]
          refine el_catN (sl (Evl.Ex.refl _) rfl rfl) (sf (Evl.Ex.refl _) rfl (p1 rfl)) ?_
          simp only [List.length_map, List.length_append, List.length_take, List.length_drop, List.length_singleton]; omega
        · have := wt_cut its (show p ≤ p + 1 by omega)
          rw [wt_app]
          omega
      · refine Evl.s_asgL (xs := (its.take p ++ [x] ++ its.drop p).map V.str) ?_ fun pl G' _ e' h' => ⟨pl, _, rfl, h', cat3 (cat3 (at_ _) ax) (ad_ _), ?_, kG.trans (kept_ex e'), T8'.ex e'⟩
        · rw [List.map_append, List.map_append]
          refine el_catN (el_catN (sl (Evl.Ex.refl _) rfl rfl) (xs1 rfl) ?_) (sf (Evl.Ex.refl _) rfl (Evl.eo_some (Evl.ev_var rfl))) ?_
          all_goals simp only [List.length_map, List.length_append, List.length_take, List.length_drop, List.length_singleton]; omega
        · have := wt_cut its (Nat.le_refl p)
          rw [wt_app, wt_app]
          omega
      · -- two exchanged
        have hpE : (its.map V.str)[p]? = some (.str its[p]) := by rw [List.getElem?_map, List.getElem?_eq_getElem hp]; rfl
        have hrE : (its.map V.str)[r]? = some (.str its[r]) := by rw [List.getElem?_map, List.getElem?_eq_getElem hr']; rfl
        show tTup _ _ _ _
        refine (Evl.eu_tup (vs := [.str its[r], .str its[p]]) (Evl.ea_cons (Evl.ev_op (Evl.ev_var rfl) (Evl.ev_var rfl) (Evl.rv_ixL (Evl.sq_of hG) (atI_nat hrE))) (Evl.ea_cons (Evl.ev_op (Evl.ev_var rfl) (Evl.ev_var rfl) (Evl.rv_ixL (Evl.sq_of hG) (atI_nat hpE))) Evl.ea_nil)) (by show 2 ≤ 100000; decide)) G (Evl.Ex.refl _) _ fun b G3 hb e3 h3 => ?_
        have hL3 := e3 _ _ hG
        refine ⟨b, _, rfl, Evl.st_of h3, rfl, _, _, rfl, .ref l, rfl, .int p, rfl, l, its.map V.str, (p : Int), p, rfl, rfl, hL3, Evl.ixN_nat (by rw [List.length_map]; omega), ?_⟩
        refine ⟨_, _, rfl, .ref l, rfl, .int r, rfl, l, ((its.map V.str).set p (.str its[r])), (r : Int), r, rfl, rfl, upd_same, Evl.ixN_nat (by rw [List.length_set, List.length_map]; omega), ?_⟩
        refine ⟨rfl, ?_⟩
        rw [upd_upd]
        have e1 : ((its.map V.str).set p (.str its[r])).set r (.str its[p]) = ((its.set p its[r]).set r its[p]).map V.str := by rw [List.map_set, List.map_set]
        rw [e1]
        refine ⟨l, _, rfl, upd_same, fun s hs => ?_, ?_, ?_, ?_⟩
        · rcases List.mem_or_eq_of_mem_set hs with hs | rfl
          · rcases List.mem_or_eq_of_mem_set hs with hs | rfl
            · exact hasc s hs
            · exact hasc _ (List.getElem_mem hr')
          · exact hasc _ (List.getElem_mem hp)
        · have h1 := wt_set (l := its) (v := its[r]) hp
          have h2 := wt_set (l := its.set p its[r]) (i := r) (v := its[p]) (by rw [List.length_set]; exact hr')
          by_cases hpr : p = r
          · subst hpr
            simp only [List.getElem_set_self] at h2
            omega
          · rw [List.getElem_set_ne hpr] at h2
            omega
        · intro a u ha hu
          rw [upd_ne (fun z => by rw [z, hl0] at hu; cases hu)]
          exact e3 _ _ (kG a u ha hu)
        · exact (T8'.ex e3).upd lt (T0.ne hl0).2
      · exact Evl.s_asgL (sl (Evl.Ex.refl _) rfl rfl) fun pl G' _ e' h' => ⟨pl, _, rfl, h', at_ _, by have := wt_take its p; omega, kG.trans (kept_ex e'), T8'.ex e'⟩
      · -- some more
        have lx : ∀ {ta : TA} {zs : List Str} {σ : L2.St}, Evl.EvA ta σ G (zs.map V.str) → zs.length ≤ 100 → (∀ s ∈ zs, Asc s) → wt zs ≤ 300 → EvF (tLst ta) σ G AddV := fun h h1 h2 h3 => ef_l (Evl.el_lst h (by rw [List.length_map]; omega)) fun b H hb => ⟨b, _, rfl, hb, h2, h3⟩
        refine asg_last (op_go ⟨.ref l, rfl, go_pick (R := AddV) AddV.mono rfl T8 (by omega) (ef_cons AddV.mono (lx (zs := [x]) (Evl.ea_cons (Evl.ev_var rfl) Evl.ea_nil) (by show 1 ≤ 100; decide) ax (by omega)) (ef_cons AddV.mono (lx (zs := ["/"]) (Evl.ea_cons Evl.ev_c Evl.ea_nil) (by decide) (by unfold Asc; decide +kernel) (by decide +kernel))
          (ef_cons AddV.mono (lx (zs := ["/", "-"]) (Evl.ea_cons Evl.ev_c (Evl.ea_cons Evl.ev_c Evl.ea_nil)) (by decide) (by unfold Asc; decide +kernel) (by decide +kernel)) (ef_cons AddV.mono (lx (zs := ["/", "1"]) (Evl.ea_cons Evl.ev_c (Evl.ea_cons Evl.ev_c Evl.ea_nil)) (by decide) (by unfold Asc; decide +kernel) (by decide +kernel)) ef_nil)))) (by omega) (by omega) fun v G' k' T' o' => ?_⟩)
        obtain ⟨b, zs, rfl, hb, hza, hzw⟩ := AddV.mono _ _ _ nw_ex o'
        have hl' := k' _ _ lt hG
        have zl := wt_len zs
        refine ⟨l, b, its.map V.str, zs.map V.str, rfl, rfl, hl', hb, by rw [List.length_map, List.length_map, sizeLine_eq]; omega, fun p' hp' => ?_⟩
        exact ⟨p', its ++ zs, rfl, by rw [List.map_append]; exact upd_same, cat3 hasc hza, by rw [wt_app]; omega, (kG.trans k').trans (kept_ex (Evl.Ex.new hp')), (T'.mono (by omega)).ex (Evl.Ex.new hp')⟩
      · -- a sign bent
        refine asg_go ⟨.ref t, rfl, (Evl.ev_op (P04.ev_lenS (Evl.ev_var rfl) (by rw [sizeLine_eq]; omega)) Evl.ev_c Evl.rv_I0) G (Evl.Ex.refl _) _ fun G1 e1 => ⟨t, c, _, _, rfl, T8.ex e1, by omega, by omega, by omega, fun spot G2 s0 s1 k2 T2 => ?_⟩⟩
        obtain ⟨y, rfl⟩ : ∃ y : Nat, spot = (y : Int) := ⟨spot.toNat, by omega⟩
        have one : ∀ {y : Str} {σ : L2.St} {G2 : Hp}, Asc y → y.length ≤ 1 → EvF (tC (.str y)) σ G2 SgV := fun h1 h2 => ef_c Evl.ev_c fun _ => ⟨_, rfl, h1, h2⟩
        refine ret_go (op_go (op_go ((ev_slS (Evl.ev_var rfl) Evl.eo_none (Evl.eo_some (Evl.ev_var rfl)) (by rw [sizeLine_eq]; omega)) G2 (Evl.Ex.refl _) _ fun G3 e3 => go_pick (m := 6) (R := SgV) SgV.mono rfl (T2.ex e3) (by omega) ?_ (by omega) (by omega) fun v G' k' T' o' => ?_)))
        · exact ef_cons SgV.mono (one (y := " ") (by unfold Asc; decide +kernel) (by decide)) (ef_cons SgV.mono (one (y := "/") (by unfold Asc; decide +kernel) (by decide)) (ef_cons SgV.mono (one (y := "1") (by unfold Asc; decide +kernel) (by decide)) (ef_cons SgV.mono (one (y := "-") (by unfold Asc; decide +kernel) (by decide)) (ef_cons SgV.mono (one (y := "_") (by unfold Asc; decide +kernel) (by decide)) (ef_cons SgV.mono (one (y := "") (by unfold Asc; decide +kernel) (by decide)) (ef_nil))))))
        obtain ⟨u, rfl, hu, hu1⟩ := o'
        have c1 := cutS_length z none (some (y : Int))
        refine ⟨_, _, rfl, rfl, by rw [sizeLine_eq]; omega, (ev_slS (Evl.ev_var rfl) (Evl.eo_some (Evl.ev_is (Evl.ev_op (Evl.ev_var rfl) Evl.ev_c Evl.rv_I0) (show V.int ((y : Int) + 1) = V.int ((y + 1 : Nat) : Int) by simp))) Evl.eo_none (by rw [sizeLine_eq]; omega)) G' (Evl.Ex.refl _) _ fun G4 e4 => ?_⟩
        have c2 := cutS_length z (some ((y + 1 : Nat) : Int)) none
        have L1 : (cutS z none (some (y : Int)) ++ u).length = (cutS z none (some (y : Int))).length + u.length := str_app_len _ _
        have L2 : (cutS z none (some (y : Int)) ++ u ++ cutS z (some ((y + 1 : Nat) : Int)) none).length = (cutS z none (some (y : Int)) ++ u).length + (cutS z (some ((y + 1 : Nat) : Int)) none).length := str_app_len _ _
        have d1 : (cutS z none (some (y : Int))).length = min y z.length := by rw [← tl_length, tl_cutTo, List.length_take, tl_length]
        have d2 : (cutS z (some ((y + 1 : Nat) : Int)) none).length = z.length - (y + 1) := by rw [← tl_length, tl_cutFrom, List.length_drop, tl_length]
        refine ⟨_, _, rfl, rfl, by rw [sizeLine_eq]; omega, ?_⟩
        refine q _ _ ((((kG.trans (kept_ex e1)).trans k2).trans ((kept_ex e3).trans k')).trans (kept_ex e4)) ((T'.mono (by omega)).ex e4) (asc_app (asc_app (asc_cutTo hz _) hu) (asc_cutFrom hz _)) (by omega)
      · exact ⟨l, its, rfl, hG, hasc, by omega, kG, T8'⟩
    · rintro σ' G' ⟨pl, ys, h2, hp', ha, hw, kG', TG'⟩
      refine ⟨rfl, .ref pl, h2, " ", pl, ys, rfl, rfl, .inl (Evl.sq_of hp'), ?_, ?_⟩
      · show (ys.map (·.length)).sum + ys.length * 1 ≤ 16777216
        unfold wt at hw
        omega
      · exact q _ _ kG' TG' (asc_join (by unfold Asc; decide +kernel) ha) (by have := wt_join ys; omega)
end
end P04
end S_Ug
section S_Xl
namespace Hk
open PySem PySem.Spec PyProof.Rows L2
/-! ### try: .. / except C as e: .. / except ..: .., where the first clause takes every error -/
section
variable {X : Cx} {pins : List (Addr × Obj)} {σ : L2.St} {H : Hp} {s : Shared}
/-- the wish of the body of a try whose first clause takes every error of the body; the slot i is that clause's name's -/
def wFst (K : PySem.W.Frag) (c : Value) (i : Nat) (ts : Addr → Value → Option Addr → TS) (D : Ends) : WX := fun cls d σ H =>
  PySem.W.exmOne K cls c = some true ∧ ∀ a, H a = none → ts a cls d { nx := fun σ' H' => D.nx (σ'.set i none) H', rt := D.rt, bk := fun _ _ => False, ct := fun _ _ => False } (σ.set i (some (.ref a))) H
theorem ps_first {x n : Str} {c : Value} {i : Nat} {body suite : List Stmt} {b₀ : Stmt} {np pos pos' : Pos} {hds : List ExceptHandler} {tb : WX → TS} {ts : Addr → Value → Option Addr → TS}
    (hst : X.stack = X.env :: X.outer) (hf : X.env.frame = some X.env.locals) (nd : X.N.Nodup) (hi : X.N[i]? = some n) (kn : X.env.kindOf n = some .local) (hc : Names X x c)
    (hb : ∀ (W : WX) (pn : List (Addr × Obj)) (xe : Value → Shared → Prop), Takes (X.tr pn xe) W → PassesOwn (model X.prog X.w) X.A X.env xe → PSs (X.tr pn xe) body (tb W))
    (hsu : ∀ (a : Addr) (oe : Obj) (cls : Value) (d : Option Addr) (pn : List (Addr × Obj)), Zc cls d oe → (∃ vs, oe.data = .fields vs) → PSs (X.suite a ((a, oe) :: pn)) (b₀ :: suite) (ts a cls d)) :
    PS X (.Try body (.ExceptHandler (some (.Name x np)) (some n) (b₀ :: suite) pos' :: hds) [] [] pos) (fun D σ H => tb (wFst X.K c i ts D) D σ H) := by
  constructor
  intro pins s σ H D I h
  have frs_ : X.A.frames = some (X.env :: X.outer) := by rw [I.ok.frames, hst]
  have ok := I.ok
  refine wpAny_Try_except (wpAny_mono ((hb (wFst X.K c i ts D) (X.pn ++ pins) (fun e s₁ => wpAny (model X.prog X.w) X.A (noteFrame e X.env) (fun _ s₂ => wpAny (model X.prog X.w) X.A (setFlight e none) (fun _ s₃ =>
    wpAny (model X.prog X.w) X.A (handleBy e X.env (.ExceptHandler (some (.Name x np)) (some n) (b₀ :: suite) pos' :: hds)) (SP X pins D) X.xe s₃) X.xe s₂) X.xe s₁) (fun u s' air => ?_) PassesOwn.looking).run [] s σ H D (I.toTry _) h) (fun f s1 hsp => ?_) fun _ _ z => z)
  · obtain ⟨a, B, sI, pins', σ', H', cls, d, rfl, J0, nb, up, sky, na, os, ag, hexm, hts⟩ := air
    have J : Inv X pins σ' H' sI := J0.ofTry ok
    have Ba : B.get? a = none := by
      rcases sky with q | q | q
      · exact q.2.1
      · exact q.2.1
      · exact q.2.1
    rw [hst] at sky
    show wpAny (model X.prog X.w) X.A (noteFrame (.ref a) X.env) _ _ _
    refine Sky.land Zc.steady frs_ hf sky fun h3 fl3 up3 => ?_
    have J3 : Inv X pins σ' H' { s' with heap := h3 } := J.landed nb fl3.1 (up.trans up3) os ag
    obtain ⟨o3, v3, at3, z3, d3⟩ := fl3.there
    have off : ∀ {hh : Heap} {o : Obj} {vs : Array Value}, hh.FunFrames B (X.env :: X.outer) → hh.get? a = some o → o.data = .fields vs → a ∉ frs (X.env :: X.outer) := by
      intro hh o vs ff e dd hm
      obtain ⟨_, o', e', q⟩ := ff.mem hm
      rw [e] at e'
      cases e'
      exact q _ dd
    have offa := off fl3.2.2.1 at3 d3
    have nL : a ≠ X.env.locals := fun q => offa (List.mem_filterMap.mpr ⟨X.env, List.mem_cons_self, by rw [hf, q]⟩)
    have nF : a ∉ X.fs := fun hm => by
      obtain ⟨e, he, q⟩ := List.mem_filterMap.mp hm
      exact offa (List.mem_filterMap.mpr ⟨e, List.mem_cons_of_mem _ he, q⟩)
    have S3 := J3.suite at3 d3 na nL nF
    refine wpAny_handleBy_cons (codeAny_handlers_test ?_) (fun q => nomatch q)
    have LT : PySem.W.Looks (model X.prog X.w) h3 (typeOf (.ref a)) cls := fun A Q E s k q => wpAny_typeOf_ref (k _ _ at3) (by rw [z3.1]; exact q)
    have LM := PySem.W.exm_one (M := model X.prog X.w) (J3.kIn) LT hexm
    have look : ∀ {Q : Value → Shared → Prop} {E : Value → Shared → Prop}, Q c { s' with heap := h3 } → wpAny (model X.prog X.w) (X.A.mark (some (.ref a))) (eval (.Name x np) X.env) Q E { s' with heap := h3 } := by
      intro Q E q
      rcases hc with ⟨hg, hdb, hm | ⟨hm, hv, hnn⟩⟩
      · exact ld_glob (X := X.suite a ((a, o3) :: (X.pn ++ pins))) S3 hg hm q hdb
      · exact ld_blt (X := X.suite a ((a, o3) :: (X.pn ++ pins))) S3 hg hm hv q hnn hdb
    refine look (LM.here (codeAny_handlers_suite_as (HandSPX.lands_againZ fl3 fun h4 fl4 up4 => ?_)))
    have J4 : Inv X pins σ' H' { s' with heap := h4 } := J.landed nb fl4.1 ((up.trans up3).trans up4) os ag
    obtain ⟨o4, v4, at4, z4, d4⟩ := fl4.there
    refine store_ok (X := X.suite a ((a, o4) :: (X.pn ++ pins))) (v := .ref a) (J4.suite at4 d4 na nL nF) nd hi (.inl kn) rfl (fun s5 S5 => ?_) (.inr kn)
    refine wpAny_mono ((hsu a o4 cls d (X.pn ++ pins) z4 ⟨_, d4⟩).run [] s5 _ H' _ S5 (hts a na)) (fun f s6 hsp => ?_) (fun _ _ z => False.elim z)
    cases f with
    | next =>
      obtain ⟨σ6, H6, S6, q6⟩ := hsp
      exact gone_ok (S6.unsuite ok) nd hi kn fun s7 J7 => ⟨_, _, J7, q6⟩
    | brk => exact hsp.elim fun _ q => q.elim fun _ q => q.2.elim
    | cont => exact hsp.elim fun _ q => q.elim fun _ q => q.2.elim
    | ret u =>
      obtain ⟨v6, σ6, H6, S6, r6, q6⟩ := hsp
      exact gone_ok (S6.unsuite ok) nd hi kn fun s7 J7 => ⟨_, _, _, J7, r6, q6⟩
  · cases f with
    | next =>
      obtain ⟨σ', H', J', q⟩ := hsp
      exact wpAny_execs_nil ⟨σ', H', J'.ofTry ok, q⟩
    | ret u =>
      obtain ⟨v, σ', H', J', r, q⟩ := hsp
      exact ⟨v, σ', H', J'.ofTry ok, r, q⟩
    | brk =>
      obtain ⟨σ', H', J', q⟩ := hsp
      exact ⟨σ', H', J'.ofTry ok, q⟩
    | cont =>
      obtain ⟨σ', H', J', q⟩ := hsp
      exact ⟨σ', H', J'.ofTry ok, q⟩
end
end Hk
end S_Xl
section S_Xm
namespace EnL
open PySem PySem.Spec PyProof.Rows L2 Tl
/-! ### C.m(..), m a staticmethod of the own class C -/
/-- m is one: its record at p, its def at g -/
structure Stat (K : PySem.W.Frag) (C : Addr) (mc : Value) (m : Str) (p g : Addr) : Prop where
  rd : ClX.CRead K C mc
  find : PySem.W.findCls K (.ref C) mc m = some (.get (.builtin "staticmethod.__get__") (.ref p) .none (.ref C))
  record : ∃ more, PySem.W.recIn K p "staticmethod" = some (.ref g :: more)
  kp : PySem.W.keepIn K (.ref g) = true
theorem get_stat {X : Cx} {pins : List (Addr × Obj)} {σ : L2.St} {H : Hp} {s : Shared} {C p g : Addr} {mc : Value} {m : Str} {A : Around} {E : Value → Shared → Prop} {pl : Sem Bool} {Q : Value × List Value → Shared → Prop} (I : Inv X pins σ H s) (S : Stat X.K C mc m p g)
    (h : ∀ s', Inv X pins σ H s' → Q (.ref g, []) s') : wpAny (model X.prog X.w) A (getMethod (.ref C) m pl) Q E s := by
  obtain ⟨more, hp⟩ := S.record
  refine PySem.W.method_cls I.kIn S.rd.ga (PySem.W.cls_bind I.kIn S.rd.rd S.find ?_)
  exact wpAny_call (PySem.W.sm_get (s := { s with toks := s.toks + 1 }) I.kIn hp (PySem.W.handed_on rfl (h _ (I.tok _))))
def tStat (C : Addr) (sp : Sp) (E : XK) (ta : TE) (t : TA) : TE := fun σ H Q => ta σ H fun x H1 => x = .ref C ∧ t σ H1 fun vs H2 => sp vs H2 Q E
theorem pe_stat {X : Cx} {CX : CXT} {k : Nat} {C p g : Addr} {mc : Value} {m : Str} {fd : FuncData} {ps : List Str} {sp : Sp} {E : XK} {pos apos : Pos} {o e : Expr} {es : List Expr} {ta : TE} {t : TA} {pl : Sem Bool}
    (ho : PE X o ta) (S : Stat X.K C mc m p g) (F : FnOk X.prog X.w X.K X.mg X.base CX k g fd ps sp) (hr : Room k X.A) (hb : Binds X.K fd ps []) (hx : Passes CX X E) (ha : PA X (e :: es) t)
    (hst : starEach (e :: es) X.env = (false, eval e X.env) :: starEach es X.env := by rfl) (hpl : (backTo pos (starEach es X.env)).any (·.1) = false := by rfl)
    (he : eval (.Call (.Attribute o m apos) (e :: es) [] pos) X.env = (do
      let ov ← eval o X.env
      standAt apos.atName
      let __x ← holding [ov] (getMethod ov m pl)
      match __x with
        | (f, first) => callWith pos f first (backTo pos (starEach (e :: es) X.env)) (backToKw pos (keywordEach [] X.env))) := by rfl) :
    PE X (.Call (.Attribute o m apos) (e :: es) [] pos) (tStat C sp E ta t) := by
  constructor
  intro pins s σ H Q I h
  rw [he]
  refine wpAny_bind (thn (ho.run pins s σ H _ I h) fun v s1 hv => ?_)
  obtain ⟨x, H1, I1, rx, rfl, hk⟩ := hv
  obtain rfl := rx
  refine wpAny_bind (wpAny_standAt ?_)
  refine wpAny_bind (wpAny_holding ?_)
  refine get_stat I1 S fun s' I2 => ?_
  refine PySem.W.callWith_K (h₀ := X.base) I2.ok.mod.kin S.kp (thn (ha.run pos pins s' σ H1 _ I2 hk) fun us s2 hv => ?_) hst hpl
  obtain ⟨vs, H2, I3, r, q⟩ := hv
  have q' : sp (vs ++ []) H2 Q E := by rw [List.append_nil]; exact q
  exact ⟨I3.kIn, run_fn F hr hb .nil hx I3 r q'⟩
def tStatN (C : Addr) (n : Nat) (sp : Sp) (gV : List V → List V → List V) (E : XK) (ta : TE) (tk : TA) : TE := fun σ H Q => ta σ H fun x H1 => x = .ref C ∧ tk σ H1 fun zs H2 => zs.length = n ∧ sp (gV [] zs) H2 Q E
theorem pe_statN {X : Cx} {CX : CXT} {k : Nat} {C p g : Addr} {mc : Value} {m : Str} {fd : FuncData} {ps ks : List Str} {sp : Sp} {E : XK} {pos apos : Pos} {o : Expr} {kws : List Keyword} {ta : TE} {tk : TA} {gg : List Value → List Value → List Value} {gV : List V → List V → List V} {pl : Sem Bool}
    (ho : PE X o ta) (S : Stat X.K C mc m p g) (F : FnOk X.prog X.w X.K X.mg X.base CX k g fd ps sp) (hr : Room k X.A) (hb : KBn X.K fd ps 0 ks gg gV) (hx : Passes CX X E) (hkw : PK X kws tk)
    (hall : (backToKw pos (keywordEach kws X.env)).all (·.1.isSome) = true := by rfl) (hks : (backToKw pos (keywordEach kws X.env)).filterMap (·.1) = ks := by rfl)
    (hpl : ((backTo pos (starEach [] X.env)).any (·.1) || (backToKw pos (keywordEach kws X.env)).any (·.1.isNone)) = false := by rfl)
    (he : eval (.Call (.Attribute o m apos) [] kws pos) X.env = (do
      let ov ← eval o X.env
      standAt apos.atName
      let __x ← holding [ov] (getMethod ov m pl)
      match __x with
        | (f, first) => callWith pos f first (backTo pos (starEach [] X.env)) (backToKw pos (keywordEach kws X.env))) := by rfl) :
    PE X (.Call (.Attribute o m apos) [] kws pos) (tStatN C ks.length sp gV E ta tk) := by
  constructor
  intro pins s σ H Q I h
  rw [he]
  refine wpAny_bind (thn (ho.run pins s σ H _ I h) fun v s1 hv => ?_)
  obtain ⟨x, H1, I1, rx, rfl, hk⟩ := hv
  obtain rfl := rx
  refine wpAny_bind (wpAny_standAt ?_)
  refine wpAny_bind (wpAny_holding ?_)
  refine get_stat I1 S fun s' I2 => ?_
  refine PySem.W.callWith_KW0 (h₀ := X.base) I2.ok.mod.kin S.kp hall (thn (hkw.run pos pins s' σ H1 _ I2 hk) fun ws s2 hv => ?_) hpl
  obtain ⟨zs, H2, I3, rz, l2, q2⟩ := hv
  refine ⟨I3.kIn, ?_⟩
  rw [hks]
  exact run_fnN (us := []) (vs := []) F hr hb hx I3 .nil rz rfl l2 q2
end EnL
end S_Xm
section S_Xo
namespace EnL
open PySem PySem.Spec PyProof.Rows L2 Tl
/-! ### C.m(..) of a staticmethod, where what it raises is told by the state -/
def tStatS (C : Addr) (sp : Sp) (E : L2.St → XK) (ta : TE) (t : TA) : TE := fun σ H Q => ta σ H fun x H1 => x = .ref C ∧ t σ H1 fun vs H2 => sp vs H2 Q (E σ)
theorem pe_statS {X : Cx} {CX : CXT} {k : Nat} {C p g : Addr} {mc : Value} {m : Str} {fd : FuncData} {ps : List Str} {sp : Sp} {E : L2.St → XK} {pos apos : Pos} {o e : Expr} {es : List Expr} {ta : TE} {t : TA} {pl : Sem Bool}
    (ho : PE X o ta) (S : Stat X.K C mc m p g) (F : FnOk X.prog X.w X.K X.mg X.base CX k g fd ps sp) (hr : Room k X.A) (hb : Binds X.K fd ps []) (hx : ∀ σ, PassesAt CX X σ (E σ)) (ha : PA X (e :: es) t)
    (hst : starEach (e :: es) X.env = (false, eval e X.env) :: starEach es X.env := by rfl) (hpl : (backTo pos (starEach es X.env)).any (·.1) = false := by rfl)
    (he : eval (.Call (.Attribute o m apos) (e :: es) [] pos) X.env = (do
      let ov ← eval o X.env
      standAt apos.atName
      let __x ← holding [ov] (getMethod ov m pl)
      match __x with
        | (f, first) => callWith pos f first (backTo pos (starEach (e :: es) X.env)) (backToKw pos (keywordEach [] X.env))) := by rfl) :
    PE X (.Call (.Attribute o m apos) (e :: es) [] pos) (tStatS C sp E ta t) := by
  constructor
  intro pins s σ H Q I h
  rw [he]
  refine wpAny_bind (thn (ho.run pins s σ H _ I h) fun v s1 hv => ?_)
  obtain ⟨x, H1, I1, rx, rfl, hk⟩ := hv
  obtain rfl := rx
  refine wpAny_bind (wpAny_standAt ?_)
  refine wpAny_bind (wpAny_holding ?_)
  refine get_stat I1 S fun s' I2 => ?_
  refine PySem.W.callWith_K (h₀ := X.base) I2.ok.mod.kin S.kp (thn (ha.run pos pins s' σ H1 _ I2 hk) fun us s2 hv => ?_) hst hpl
  obtain ⟨vs, H2, I3, r, q⟩ := hv
  exact ⟨I3.kIn, run_fnS F hr hb (hx σ) I3 r q⟩
end EnL
end S_Xo
section S_Uh
namespace P04
open PySem PySem.Spec PyProof.Rows L2 Tl Hk LamX EnL TL
abbrev nRd : List Str := ["text", "error", "row"]
theorem scRd : FnScope nRd ["text"] (defScope sLRead) := ⟨rfl, rfl, rfl, by decide +kernel, rfl, by decide +kernel, by decide +kernel⟩
def spRd (K : PySem.W.Frag) : Sp := fun vs H Q _ => ∃ (v : V) (o : Option Str), vs = [v] ∧ TxtV K H v o ∧ (o = none → ∀ p H1, Evl.Ex H H1 → H1 p = some (.tup [.int 0, .int 0]) → Q (.ref p) H1) ∧
  (∀ s, o = some s → (∀ i, Rd (Txt.split s " ") (.error i) → ∀ p H1, Evl.Ex H H1 → H1 p = some (.tup [.int 0, .int (i : Int)]) → Q (.ref p) H1) ∧ (∀ ts, Rd (Txt.split s " ") (.ok ts) → ∀ D H1, Evl.Ex H H1 → LL H1 D ts → Q (.ref D) H1))
abbrev tbRd (K : PySem.W.Frag) (C CT : Addr) : WX → TS := fun W => tRet (tLc (iTup K (tFld K (tStatS C (spRead K C CT) (fun σ => WE W σ) (tC (.ref C)) (tCons (tVar 0) tNil)) "turns")) (gName 2) tYes (tCB (Evl.rListS K) (tCons (tVar 2) tNil)) [2])
abbrev tsRd (CT : Addr) : Addr → Value → Option Addr → TS := fun a cls d => tRet (tTup (tCons (tXf a cls d CT "line" (tVar 1)) (tCons (tXf a cls d CT "item" (tVar 1)) tNil)))
section
variable {K : PySem.W.Frag} {σ : L2.St} {H G : Hp}
theorem el_listP {ta : TE} {p : Addr} {xs : List V} (ha : Evl.Ev ta σ H (.ref p)) (h : SqP H p xs) : Evl.EvL (tCB (Evl.rListS K) (tCons ta tNil)) σ H xs := fun H1 e Q q => ha H1 e _ fun H2 e2 => ⟨p, xs, rfl, (h.ex (e.trans e2)).s, fun l hl => q l _ (Evl.fresh_back e2 hl) (e2.trans (Evl.Ex.new hl)) upd_same⟩
theorem lc_tup {te te' : TE} {g : TG} {tt : L2.TT} {vs : List Nat} {Q : VK} (h : te σ H fun v H' => tLc (iTup K (tC v)) g tt te' vs σ H' Q) : tLc (iTup K te) g tt te' vs σ H Q := h
theorem lists_tup {t : Addr} {ts : List (List Int)} {v y1 y2 : Option V} {Q : VK} (hL : TT G t ts) (hz : ts.length ≤ 1000) (q : ∀ (D : Addr) (G' : Hp), Evl.Ex G G' → LL G' D ts → Q (.ref D) G') :
    tLc (iTup K (tC (.ref t))) (gName 2) tYes (tCB (Evl.rListS K) (tCons (tVar 2) tNil)) [2] [v, y1, y2] G Q := by
  obtain ⟨as0, hl, ha, hrow⟩ := hL
  refine go_lcD (o := fun i => .lst ((ts.getD i []).map V.int)) (ei_tup (K := K) Evl.ev_c (Evl.st_of hl)) (aims_at (j := 2)) (fun _ => rfl) (by rw [List.length_map]; omega) (fun i hi H1 e1 Q1 q1 => ?_) G (Evl.Ex.refl _) _ fun D as H1 hD e1 h1 l1 nd1 r1 => q D H1 e1 ⟨as, h1, by rw [l1, List.length_map, ha], fun i a ns p r => ?_⟩
  · rw [List.length_map] at hi
    obtain ⟨a, ns, h1, h2⟩ := both_at ha hi
    have eg : ts.getD i [] = ns := by rw [List.getD_eq_getElem?_getD, h2]; rfl
    rw [eg] at q1
    exact el_listP (Evl.ev_is (Evl.ev_var rfl) (refs_getD h1)) (.inr (hrow i a ns h1 h2)) H1 e1 Q1 q1
  · have b3 := (r1 i a p).2.2
    rw [List.getD_eq_getElem?_getD, r] at b3
    exact b3
theorem lk_line (i : Nat) : List.lookup ("line" : Str) [(("item" : Str), V.int (i : Int)), (("line" : Str), V.int 0)] = some (.int 0) := by
  have : (("line" : Str) == ("item" : Str)) = false := by decide +kernel
  simp [List.lookup, this]
/-- (error.line, error.item) -/
theorem go_err {a d CT : Addr} {i : Nat} {D : Ends} (h1 : σ[1]? = some (some (.ref a))) (hd : H d = some (.xd [(("item" : Str), .int (i : Int)), (("line" : Str), .int 0)])) (q : ∀ p H1, Evl.Ex H H1 → H1 p = some (.tup [.int 0, .int (i : Int)]) → D.rt (.ref p) H1) : tsRd CT a (.ref CT) (some d) D σ H := by
  refine ret_go (tup_go (cons_any ⟨.ref a, h1, rfl, rfl, d, _, .int 0, rfl, hd, lk_line i, cons_any ⟨.ref a, h1, rfl, rfl, d, _, .int (i : Int), rfl, hd, by simp [List.lookup], ?_⟩⟩))
  exact ⟨by show 2 ≤ sizeLine; decide, fun p hp => q p _ (Evl.Ex.new hp) upd_same⟩
end
section
variable {P : Program} {w : World} {K : PySem.W.Frag} {mg : Str → Option Value} {base : Heap}
theorem ok_rd {f fR pR C CT : Addr} {fd fdR : FuncData} {mc : Value} {k : Nat} (F : Fun K "_law_read" "_law_read" sLRead f fd) (T : TWeb K mg C)
    (S : Stat K C mc "read" pR fR) (GR : FnOk P w K mg base (L2.CX P w) k fR fdR ["text"] (spRead K C CT)) (bR : Binds K fdR ["text"] [])
    (gC : mg "BadText" = some (.ref CT)) (XF : XfC K CT) (nl : PySem.W.findIn K (.ref CT) "line" = some none) (ni : PySem.W.findIn K (.ref CT) "item" = some none) (hx : PySem.W.exmOne K (.ref CT) (.ref CT) = some true)
    (mlist : mg "list" = none) : FnOk P w K mg base CX0 (k + 1) f fd ["text"] (spRd K) := by
  refine F.ok scRd (fun vs H Q E h => ?_) (fun cdv A outer s H vs Q E hr h => ?_)
  · obtain ⟨v, o, rfl, _⟩ := h
    rfl
  · obtain ⟨v, o, rfl, hv, hno, hyes⟩ := h
    have nd := scRd.nd
    refine ⟨fun D σ H => tbRd K C CT (wFst K (.ref CT) 1 (tsRd CT) D) D σ H, pss_one (ps_first (x := "BadText") (n := "error") (i := 1) (c := .ref CT) (tb := tbRd K C CT) (ts := tsRd CT) rfl rfl nd rfl (by rfl) ⟨by rfl, by decide, .inl gC⟩ (fun W pn xe tk po => ?_) (fun a oe cls d pn hz hf => ?_)), ?_⟩
    · refine pss_one (ps_ret (pe_lc (own := [("row", 2)]) (g := gName 2) (tt := tYes) (te := tCB (Evl.rListS K) (tCons (tVar 2) tNil)) rfl nd ?_ (blkOk_by (N := nRd) (sc := defScope sLRead) (by decide +kernel))
          (fun _ _ _ _ _ => pg_name (i := 2) nd rfl (Or.inl rfl)) (fun _ _ _ _ _ => pts_nil)
          (fun _ _ _ _ _ => pe_callTy call_list_of (by rfl) mlist (by decide +kernel) (pa_cons (pv 2) pa_nil))))
      refine pi_tup (pe_fld (pe_statS (pe_glob (v := .ref C) (by rfl) T.mgC rfl) S GR hr bR (fun σ => passAt tk σ) (pa_cons (pv 0) pa_nil)) rfl)
    · exact pss_one (ps_ret (pe_tup (pa_cons (pe_xf XF nl hz hf (pv 1)) (pa_cons (pe_xf XF ni hz hf (pv 1)) pa_nil))))
    have bad : ∀ i : Nat, (∀ p H1, Evl.Ex H H1 → H1 p = some (.tup [.int 0, .int (i : Int)]) → Q (.ref p) H1) → RzT CT H (WE (wFst K (.ref CT) 1 (tsRd CT) { nx := fun _ H' => Q .non H', rt := Q }) (start nRd [v])) i := fun i hq H1 d e1 hd => ⟨hx, fun a ha => go_err rfl upd_same fun p H2 e2 h2 => hq p H2 ((e1.trans (Evl.Ex.new hd)).trans e2) h2⟩
    refine ret_go (lc_tup ?_)
    refine ⟨rfl, v, rfl, v, o, rfl, hv, fun z => bad 0 (hno z), fun s hs => ⟨fun i hi => bad i ((hyes s hs).1 i hi), fun ts hts x H1 e1 wx => ?_⟩⟩
    obtain ⟨dx, t, ti, h1, h2, h3⟩ := id wx
    have hT : OkT ts := by cases hts with | ok _ h => exact h
    exact ⟨x, C, dx, _, .ref t, rfl, h1, T.cl, T.nT, wf_t _ _ _, lists_tup h2 hT.most fun D H2 e2 h => (hyes s hs).2 ts hts D H2 (e1.trans e2) h⟩
end
end P04
end S_Uh
section S_Uj
namespace P04
open PySem PySem.Spec PyProof.Rows L2 Tl Hk LamX EnL TL
/-! ### the text of many empty turns -/
theorem par_empty : ∀ (j : Nat) (i : Nat) (done : List (List Int)), 1 ≤ j → done.length + j = 1000 → par (tailIts (List.replicate j [])) i done [] true true = .error (i + 2 * (j - 1))
  | 0, _, _, h, _ => absurd h (by decide)
  | 1, i, done, _, h => by
    show par ["/", "-"] i done [] true true = _
    unfold par
    rw [decide_eq_false (show ¬(done.length + 1 < 1000) by omega), if_neg (by simp), if_neg (by simp), if_pos (by simp)]
    rfl
  | j + 2, i, done, _, h => by
    have e : tailIts (List.replicate (j + 2) []) = ("/" : Str) :: ("-" : Str) :: tailIts (List.replicate (j + 1) []) := rfl
    rw [e]
    unfold par
    rw [decide_eq_true (show done.length + 1 < 1000 by omega), if_pos (by decide +kernel)]
    unfold par
    rw [if_neg (by simp), if_pos (by decide +kernel)]
    rw [par_empty (j + 1) (i + 1 + 1) (done ++ [[]]) (by omega) (by rw [List.length_append, List.length_singleton]; omega)]
    congr 1
    omega
theorem parse_many : parse (itemsOf (List.replicate 1001 [])) = .error 1999 := by
  have e : itemsOf (List.replicate 1001 []) = ("-" : Str) :: tailIts (List.replicate 1000 []) := rfl
  rw [e]
  unfold parse par
  rw [if_neg (by simp), if_pos (by decide +kernel)]
  exact par_empty 1000 1 [] (by decide) (by decide)
theorem split_textP {ts : List (List Int)} (hne : ts ≠ []) (h : ∀ ns ∈ ts, ∀ x ∈ ns, 1 ≤ x) : Txt.split (textOf ts) " " = itemsOf ts := by
  rw [text_its hne]
  exact TL.split_join tl_sp (by decide +kernel) (itemsOf_ne hne) fun p hp => (no32 h p hp).1
theorem asc_text {ts : List (List Int)} (hne : ts ≠ []) (h : ∀ ns ∈ ts, ∀ x ∈ ns, 1 ≤ x) : Asc (textOf ts) := by
  rw [text_its hne]
  exact asc_join (by unfold Asc; decide +kernel) fun p hp => (no32 h p hp).2
theorem rd_good {ts : List (List Int)} (h : OkT ts) : Rd (Txt.split (textOf ts) " ") (.ok ts) := .ok (parse_text h.good) h
theorem ok_empty {m : Nat} (h1 : 1 ≤ m) (h2 : m ≤ 1000) : OkT (List.replicate m []) := by
  refine ⟨by rw [List.length_replicate]; exact h1, by rw [List.length_replicate]; exact h2, fun i ns hi => ?_, fun i ns o hi ho => ?_, ?_⟩
  · have := List.eq_of_mem_replicate (List.mem_of_getElem? hi)
    subst this
    exact ⟨List.nodup_nil, fun x hx => by simp at hx, by simp⟩
  · have := List.eq_of_mem_replicate (List.mem_of_getElem? hi)
    subst this
    cases ho
  · have : (List.replicate m ([] : List Int)).map List.length = List.replicate m 0 := by rw [List.map_replicate]; rfl
    rw [this]
    have : ∀ k, (List.replicate k 0).sum = 0 := fun k => by
      induction k with
      | zero => rfl
      | succ k ih => rw [List.replicate_succ, List.sum_cons, ih]
    rw [this]
    decide
theorem long_text (m : Nat) : Txt.join " / " (List.replicate m "-") = textOf (List.replicate m []) := by
  unfold textOf
  rw [List.map_replicate]
  rfl
theorem emp_pos {m : Nat} : ∀ ns ∈ List.replicate m ([] : List Int), ∀ x ∈ ns, 1 ≤ x := fun ns hn x hx => by
  rw [List.eq_of_mem_replicate hn] at hx
  cases hx
theorem rd_long {m : Nat} (h1 : 1 ≤ m) (h2 : m ≤ 1000) : Rd (Txt.split (Txt.join " / " (List.replicate m "-")) " ") (.ok (List.replicate m [])) := by
  rw [long_text]
  exact rd_good (ok_empty h1 h2)
theorem rd_over : Rd (Txt.split (Txt.join " / " (List.replicate 1001 "-")) " ") (.error 1999) := by
  rw [long_text]
  refine .err ?_
  rw [split_textP (fun h => nomatch (List.replicate_succ (n := 1000) (a := ([] : List Int))).symm.trans h) emp_pos]
  exact parse_many
theorem tx_long {m : Nat} (h1 : 1 ≤ m) (h2 : m ≤ 1001) : Tx (Txt.join " / " (List.replicate m "-")) := by
  refine ⟨?_, ?_⟩
  · rw [long_text]
    refine asc_text (fun h => ?_) emp_pos
    have := congrArg List.length h
    rw [List.length_replicate] at this
    exact absurd this (by show m ≠ 0; omega)
  · have := join_le " / " (List.replicate m "-") (m := 1) fun y hy => by rw [List.eq_of_mem_replicate hy]; decide
    rw [List.length_replicate, show (" / " : Str).length = 3 by decide] at this
    omega
/-- the text of turns that were drawn -/
theorem text_small {ts : List (List Int)} (h : OkT ts) (h8 : ts.length ≤ 8) : (textOf ts).length ≤ 900 := by
  have := join_le " / " (ts.map ttx) (m := 90) fun y hy => by
    obtain ⟨ns, hn, rfl⟩ := List.mem_map.mp hy
    obtain ⟨i, hi⟩ := List.mem_iff_getElem?.mp hn
    obtain ⟨a, b, _⟩ := h.pl i ns hi
    have hl := nodup_len a b
    unfold ttx
    split
    · decide
    · have h2 := join_le " " (ns.map fun i => (toString i : Str)) (m := 10) fun y hy => by
        obtain ⟨i, hi, rfl⟩ := List.mem_map.mp hy
        have := b i hi
        exact int_len (by omega) (by have := h.most; omega)
      rw [List.length_map, show (" " : Str).length = 1 by decide] at h2
      omega
  rw [List.length_map, show (" / " : Str).length = 3 by decide] at this
  show (Txt.join " / " (ts.map ttx)).length ≤ _
  omega
theorem tx_text {ts : List (List Int)} (h : OkT ts) (h8 : ts.length ≤ 8) : Tx (textOf ts) := by
  refine ⟨asc_text (fun z => ?_) fun ns hn x hx => ?_, by have := text_small h h8; omega⟩
  · have := h.pos
    rw [z] at this
    exact absurd this (by decide)
  · obtain ⟨i, hi⟩ := List.mem_iff_getElem?.mp hn
    exact ((h.pl i ns hi).2.1 x hx).1
end P04
end S_Uj
section S_Uk
namespace P04
open PySem PySem.Spec PyProof.Rows L2 Tl Hk LamX EnL TL
def just1 {α : Type} : List α → List α → List α := fun _ ws => ws
section
open Evl
variable {K : PySem.W.Frag} {C CE CT : Addr} {σ : L2.St} {H G : Hp} {Q : VK} {E : XK} {te : TE}
theorem own_go {neg : Bool} {x : Addr} {y : V} {ts : List (List Int)} {o : Option (List (List Int))} (hx : WebAt C H x ts) (hy : Aside K C H y) (wy : WbV K C H y o) (k : ∀ H1, Ex H H1 → Q (.bl (decide (o = some ts) != neg)) H1) : rOwnEq K C neg (spEqG K C) E (.ref x) y H Q := by
  obtain ⟨dx, t, ti, h1, _⟩ := id hx
  exact ⟨x, dx, _, rfl, h1, hy, x, ts, y, o, rfl, hx, wy, fun H1 e1 => ⟨_, rfl, k H1 e1⟩⟩
theorem web_aside {y : Addr} {ts : List (List Int)} (h : WebAt C H y ts) : Aside K C H (.ref y) := by
  obtain ⟨dx, t, ti, h1, _⟩ := h
  exact .inl ⟨y, dx, _, rfl, h1⟩
/-- str of a web -/
theorem str_go {x : Addr} {ts : List (List Int)} (hx : WebAt C H x ts) (hT : OkT ts) (q : ∀ H1, Ex H H1 → Q (.str (textOf ts)) H1) : rStrIns C (spWebS C) E [.ref x] H Q := by
  obtain ⟨dx, t, ti, h1, _⟩ := id hx
  exact ⟨x, dx, _, rfl, h1, x, ts, rfl, hx, hT, fun H1 e1 => ⟨⟨_, rfl⟩, q H1 e1⟩⟩
/-! ### lists of lists, as data -/
def llD (ts : List (List Int)) : PyData := .list (ts.map fun ns => .list (ns.map PyData.int))
theorem dpa_of : ∀ {xs : List V} {ds : List PyData}, xs.length = ds.length → (∀ (i : Nat) v d, xs[i]? = some v → ds[i]? = some d → Dp K H v d) → DpAll K H xs ds
  | [], [], _, _ => .nil
  | [], _ :: _, h, _ => nomatch h
  | _ :: _, [], h, _ => nomatch h
  | x :: xs, d :: ds, h, hx => .cons (hx 0 x d rfl rfl) (dpa_of (Nat.succ.inj h) fun i v d a b => hx (i + 1) v d a b)
theorem LL.dp {l : Addr} {ts : List (List Int)} (h : LL H l ts) : Dp K H (.ref l) (llD ts) := by
  obtain ⟨as, h1, h2, h3⟩ := h
  refine .lst (Evl.sq_of h1) (dpa_of (by rw [List.length_map, List.length_map, h2]) fun i v d hv hd => ?_)
  rw [List.getElem?_map] at hv hd
  obtain ⟨a, ha, rfl⟩ := Option.map_eq_some_iff.mp hv
  obtain ⟨ns, hn, rfl⟩ := Option.map_eq_some_iff.mp hd
  exact .lst (Evl.sq_of (h3 i a ns ha hn)) (dpa_ints ns)
theorem LL.rows {l : Addr} {ts : List (List Int)} (h : LL H l ts) : RowsAt H l ts := by
  obtain ⟨as, h1, h2, h3⟩ := h
  exact ⟨as.map V.ref, .inl h1, by rw [List.length_map, h2], fun i ns hn => by
    have hi := (List.getElem?_eq_some_iff.mp hn).1
    have hi2 : i < as.length := by omega
    exact ⟨as[i], by rw [List.getElem?_map, List.getElem?_eq_getElem hi2]; rfl, .inl (h3 i _ ns (List.getElem?_eq_getElem hi2) hn)⟩⟩
theorem eqv_rowL (ns ms : List Int) : PyData.eqv (.list (ns.map PyData.int)) (.list (ms.map PyData.int)) = decide (ns = ms) := PySem.W.Datum.eqv (α := List Int) ns ms
theorem eqv_llD : ∀ ts us : List (List Int), PyData.eqv (llD ts) (llD us) = decide (ts = us)
  | [], [] => rfl
  | [], _ :: _ => rfl
  | _ :: _, [] => rfl
  | t :: ts, u :: us => by
    have h : PyData.eqv (llD (t :: ts)) (llD (u :: us)) = (PyData.eqv (.list (t.map PyData.int)) (.list (u.map PyData.int)) && PyData.eqv (llD ts) (llD us)) := rfl
    refine h.trans ?_
    rw [eqv_rowL, eqv_llD ts us]
    by_cases a : t = u <;> by_cases b : ts = us <;> simp [a, b]
theorem deep_ints (ns : List Int) : (PyData.list (ns.map PyData.int)).depth ≤ 5 := by
  simp [PyData.depth, PySem.W.ke_depthAll]
theorem llD_shaped (ts : List (List Int)) : SeqAt.shaped (llD ts) = true := shaped_list (c := 5) (by decide) fun d hd => by
  obtain ⟨ns, _, rfl⟩ := List.mem_map.mp hd
  exact ⟨by unfold PyData.canLay0; exact lay_ints ns, deep_ints ns⟩
/-- what _law_read answers, as data -/
abbrev erD (i : Nat) : PyData := .tuple ([(0 : Int), (i : Int)].map PyData.int)
theorem er_dp {p : Addr} {i : Nat} (h : H p = some (.tup [.int 0, .int (i : Int)])) : Dp K H (.ref p) (erD i) := .tup (Evl.st_of h) (.cons (.int _) (.cons (.int _) .nil))
theorem er_shaped (i : Nat) : SeqAt.shaped (erD i) = true := rfl
theorem er_eqv (i : Nat) : PyData.eqv (erD i) (erD i) = true := (eqv_row _ _).trans (decide_eq_true rfl)
theorem ne_same {x y : V} {d : PyData} (hx : Dp K H x d) (hy : Dp K H y d) (hs : SeqAt.shaped d = true) (he : PyData.eqv d d = true) (q : Q (.bl false) H) : rNeD K x y H Q := by
  refine ⟨d, d, hx, hy, hs, hs, ?_⟩
  rw [he]
  exact q
theorem eq_same {x y : V} {d : PyData} (hx : Dp K H x d) (hy : Dp K H y d) (hs : SeqAt.shaped d = true) (he : PyData.eqv d d = true) (q : Q (.bl true) H) : rEqD K x y H Q := by
  refine ⟨d, d, hx, hy, hs, hs, ?_⟩
  rw [he]
  exact q
theorem ll_eqv (ts : List (List Int)) : PyData.eqv (llD ts) (llD ts) = true := (eqv_llD ts ts).trans (decide_eq_true rfl)
end
end P04
end S_Uk
section S_Ul
namespace P04
open PySem PySem.Spec PyProof.Rows L2 Tl Hk LamX EnL TL
abbrev nLaw : List Str := ["script", "kiosk", "lap", "turns", "text", "bent", "turn", "told", "item", "odd", "many", "long", "place"]
theorem scLaw : FnScope nLaw ["script"] (defScope sLaw) := ⟨rfl, rfl, rfl, by decide +kernel, rfl, by decide +kernel, by decide +kernel⟩
def spLaw (K : PySem.W.Frag) : Sp := fun vs H Q _ => ∃ (a : Addr) (ns : List Int), vs = [.ref a] ∧ SqL K H a (ns.map V.int) ∧ ns.length ≤ 63 ∧ ∀ H', Q (.bl true) H'
section
open Evl
variable {K : PySem.W.Frag} {σ : L2.St} {G H : Hp} {Q : VK}
theorem go_pickV {i : Nat} {t c : Addr} {n m : Nat} {ta : TA} {R : V → Hp → Prop} (mo : EnL.Mono R) (h0 : σ[i]? = some (some (.ref t))) (T : Tub G t c n) (hn : n < 1000000) (h : EvAF ta σ G m R) (m1 : 1 ≤ m) (m2 : m ≤ 1000)
    (q : ∀ v G', Kept t G G' → Tub G' t c (n + 1) → R v (nw G G') → Q v G') : tCall (spPick K) [] E0 (tCons (tVar i) (tCons (tLst ta) tNil)) σ G Q := by
  refine ⟨.ref t, h0, h G (Evl.Ex.refl G) _ fun vs G1 e1 l1 r1 => ⟨by rw [sizeLine_eq]; omega, fun l hl => ⟨t, c, l, vs, n, rfl, (T.ex e1).ex (Evl.Ex.new hl), hn, ((T.ex e1).ne hl).1, .inl (.inl upd_same), by omega, by omega, fun j v G' hj k T' => ?_⟩⟩⟩
  have kk : Kept t G G' := ((kept_ex e1).trans (kept_ex (Evl.Ex.new hl))).trans k
  refine q v G' kk T' (mo _ _ _ (fun a o ha => ?_) (r1 v (List.mem_of_getElem? hj)))
  obtain ⟨z1, z2⟩ := nw_at ha
  refine nw_of z1 (k _ _ (T.ne z1).1 ?_)
  rw [upd_ne (fun z => by rw [z, hl] at z2; cases z2)]
  exact z2
theorem txtNo_mono : EnL.Mono (fun v H => TxtV K H v none) := fun v H H' e h => h.ex e
def ManyV (v : V) (_ : Hp) : Prop := ∃ m : Nat, v = .int (m : Int) ∧ 1 ≤ m ∧ m ≤ 1001
theorem ManyV.mono : EnL.Mono ManyV := fun _ _ _ _ h => h
theorem asc_eq (x : Str) : (!decide (V.str x = V.str x)) = false := by simp
theorem when_go {tc : L2.TT} {tu tz : TS} {D : Ends} (h : tc σ G fun b H1 => if b = true then tu { D with nx := tz D } σ H1 else tz D σ H1) : tSeq (tIfS tc tu tNext) tz D σ G := h
theorem ifs_go {tc : L2.TT} {tu tw : TS} {D : Ends} (h : tc σ G fun b H1 => if b = true then tu D σ H1 else tw D σ H1) : tIfS tc tu tw D σ G := h
theorem test_go {te : TE} {Q : Bool → Hp → Prop} (h : te σ G fun x H' => ∃ k, x = .bl k ∧ Q k H') : tTest te σ G Q := h
theorem and_go {t u : L2.TT} {Q : Bool → Hp → Prop} (h : t σ G fun c H1 => if c = true then u σ H1 Q else Q false H1) : tAnd t u σ G Q := h
theorem tif_go {t : L2.TT} {ta tb : TE} (h : t σ G fun c H1 => if c = true then ta σ H1 Q else tb σ H1 Q) : tIf t ta tb σ G Q := h
theorem stat_go {C : Addr} {sp : Sp} {E : XK} {i : Nat} {v : V} (h0 : σ[i]? = some (some v)) (h : sp [v] H Q E) : tStat C sp E (tC (.ref C)) (tCons (tVar i) tNil) σ H Q := ⟨rfl, v, h0, h⟩
/-- what _law_read hears of a text -/
theorem rd_txt {s : Str} {r : Except Nat (List (List Int))} (hs : Tx s) (hr : Rd (Txt.split s " ") r) (h1 : ∀ i, r = .error i → ∀ p H1, Ex H H1 → H1 p = some (.tup [.int 0, .int (i : Int)]) → Q (.ref p) H1) (h2 : ∀ ts, r = .ok ts → ∀ D H1, Ex H H1 → LL H1 D ts → Q (.ref D) H1) : spRd K [.str s] H Q E0 :=
  ⟨.str s, some s, rfl, .yes hs, (fun z => nomatch z), fun u hu => by
    cases hu
    exact ⟨fun i hi => h1 i (Rd.uniq hr hi), fun ts ht => h2 ts (Rd.uniq hr ht)⟩⟩
theorem rd_no {v : V} (hv : TxtV K H v none) (h : ∀ p H1, Ex H H1 → H1 p = some (.tup [.int 0, .int 0]) → Q (.ref p) H1) : spRd K [v] H Q E0 :=
  ⟨v, none, rfl, hv, fun _ => h, fun s hs => nomatch hs⟩
/-- Web.read of a good text -/
theorem rd_web {C CT : Addr} {s : Str} {ts : List (List Int)} (hs : Tx s) (hr : Rd (Txt.split s " ") (.ok ts)) (q : ∀ x H1, Ex H H1 → WebAt C H1 x ts → Q (.ref x) H1) : spRead K C CT [.str s] H Q E0 :=
  ⟨.str s, some s, rfl, .yes hs, (fun z => nomatch z), fun u hu => by
    cases hu
    exact ⟨(fun i hi => by have := Rd.uniq hr hi; cases this), fun us ht => by have := Rd.uniq hr ht; cases this; exact q⟩⟩
end
section
variable {P : Program} {w : World} {K : PySem.W.Frag} {mg : Str → Option Value} {base : Heap}
set_option maxHeartbeats 8000000 in
theorem ok_law {f fJ fD fX fP fB fL fR fM fW fS fE pM C CE CT : Addr} {fd fdJ fdD fdX fdP fdB fdL fdR fdM fdW fdS fdE : FuncData} {mc : Value} {k : Nat} (F : Fun K "law" "law" sLaw f fd)
    (FJ : Fun K "_law_kiosk" "_law_kiosk" sTub fJ fdJ) (GJ : FnOk P w K mg base CX0 k fJ fdJ ["script"] (spTub K)) (bJ : Binds K fdJ ["script"] []) (gJ : mg "_law_kiosk" = some (.ref fJ))
    (FD : Fun K "_law_drawn" "_law_drawn" sDrawn fD fdD) (GD : FnOk P w K mg base CX0 k fD fdD ["kiosk"] spDrawn) (bD : Binds K fdD ["kiosk"] []) (gD : mg "_law_drawn" = some (.ref fD))
    (FX : Fun K "_law_text" "_law_text" sLText fX fdX) (GX : FnOk P w K mg base CX0 k fX fdX ["turns"] spLText) (bX : Binds K fdX ["turns"] []) (gX : mg "_law_text" = some (.ref fX))
    (FP : Fun K "_law_pick" "_law_pick" sPick fP fdP) (GP : FnOk P w K mg base CX0 k fP fdP ["kiosk", "some"] (spPick K)) (bP : Binds K fdP ["kiosk", "some"] []) (gP : mg "_law_pick" = some (.ref fP))
    (FB : Fun K "_law_bent" "_law_bent" sLBent fB fdB) (GB : FnOk P w K mg base CX0 k fB fdB ["kiosk", "text"] spBt) (bB : Binds K fdB ["kiosk", "text"] []) (gB : mg "_law_bent" = some (.ref fB))
    (FL : Fun K "_law_look" "_law_look" sLLook fL fdL) (GL : FnOk P w K mg base CX0 k fL fdL ["text"] spLook) (bL : Binds K fdL ["text"] []) (gL : mg "_law_look" = some (.ref fL))
    (FR : Fun K "_law_read" "_law_read" sLRead fR fdR) (GR : FnOk P w K mg base CX0 k fR fdR ["text"] (spRd K)) (bR : Binds K fdR ["text"] []) (gR : mg "_law_read" = some (.ref fR))
    (S : Stat K C mc "read" pM fM) (GM : FnOk P w K mg base (L2.CX P w) k fM fdM ["text"] (spRead K C CT)) (bM : Binds K fdM ["text"] []) (kM : KBn K fdM ["text"] 0 ["text"] just1 just1)
    (T : TWeb K mg C) (M : Mk K C fW) (GW : FnOk P w K mg base (L2.CX P w) k fW fdW ["self", "turns"] (spWebG K C CE)) (bW : Binds K fdW ["self", "turns"] [])
    (sS : PySem.W.findIn K (.ref C) "__str__" = some (some (.ref fS))) (sF : PySem.W.isFn K (.ref fS) = true) (GS : FnOk P w K mg base CX0 k fS fdS ["self"] (spWebS C)) (bS : Binds K fdS ["self"] [])
    (eE : PySem.W.findIn K (.ref C) "__eq__" = some (some (.ref fE))) (eF : PySem.W.isFn K (.ref fE) = true) (eN : PySem.W.findIn K (.ref C) "__ne__" = some (some (.builtin "object.__ne__"))) (eM : PySem.W.mroIn K C (.type "object") = some true)
    (GE : FnOk P w K mg base CX0 k fE fdE ["self", "other"] (spEqG K C)) (bE : Binds K fdE ["self", "other"] [])
    (mstr : mg "str" = none) (mrange : mg "range" = none) :
    FnG P w K mg base (k + 3) f fd ["script"] (spLaw K) := by
  refine fn_g F scLaw (fun {vs H Q E} h => ?_) (fun cdv A outer s H vs Q E hgd hr h => ?_)
  · obtain ⟨a, ns, rfl, _⟩ := h
    rfl
  · obtain ⟨a, ns, rfl, hS, hl, q⟩ := h
    have nd := scLaw.nd
    have hk := hr.mono (show k ≤ k + 2 by omega)
    have hk1 := hr.mono (show k + 1 ≤ k + 2 by omega)
    refine ⟨_, pss_cons (ps_set (i := 1) nd rfl (.inl rfl) (pe_call GJ hk (by rfl) gJ FJ.kp bJ .nil pass0 (pa_cons (pv 0) pa_nil)))
      (pss_cons (ps_for PassesOwn.never rfl (pi_range1 (by rfl) mrange (pa_cons pe_int pa_nil)) (pg_name (i := 2) nd rfl (Or.inl rfl))
        (pss_cons (ps_set (i := 3) nd rfl (.inl rfl) (pe_call GD hk (by rfl) gD FD.kp bD .nil pass0 (pa_cons (pv 1) pa_nil)))
        (pss_cons (ps_set (i := 4) nd rfl (.inl rfl) (pe_call GX hk (by rfl) gX FX.kp bX .nil pass0 (pa_cons (pv 3) pa_nil)))
        (pss_cons (ps_if (PW.pt (pw_or (pt_cmpR op_ne (pe_callTy (call_strIns GS hr sS sF bS pass0) (by rfl) mstr (by decide +kernel) (pa_cons (pe_make M GW hk1 (by rfl) T.mgC bW .nil passF (pa_cons (pv 3) pa_nil)) pa_nil)) (pv 4) (nomark _))
            (pw_or (pt_cmpR (op_neD hr.units) (pe_call GR hk (by rfl) gR FR.kp bR .nil pass0 (pa_cons (pv 4) pa_nil)) (pv 3) (nomark _))
            (pw_or1 (pt_cmpR (op_ownNe eE eF eN eM GE bE hk1 pass0) (pe_statN (ks := ["text"]) (pe_glob (v := .ref C) (by rfl) T.mgC rfl) S GM hk kM passF (pk_cons (pv 4) pk_nil)) (pe_make M GW hk1 (by rfl) T.mgC bW .nil passF (pa_cons (pv 3) pa_nil)) (nomark _)))))) (pss_one (ps_ret pe_bl)) pss_nil)
        (pss_cons (ps_set (i := 5) nd rfl (.inl rfl) (pv 4))
        (pss_one (ps_for PassesOwn.never rfl (pi_range1 (by rfl) mrange (pa_cons pe_int pa_nil)) (pg_name (i := 6) nd rfl (Or.inl rfl))
          (pss_cons (ps_set (i := 5) nd rfl (.inl rfl) (pe_call GB hk (by rfl) gB FB.kp bB .nil pass0 (pa_cons (pv 1) (pa_cons (pe_ifExp (pt_cmpR op_lt (pv 6) pe_int (nomark _)) (pv 4) (pv 5)) pa_nil))))
          (pss_cons (ps_asg (pe_call GL hk (by rfl) gL FL.kp bL .nil pass0 (pa_cons (pv 5) pa_nil)) (pg_tup (by rfl) (pgs_cons (pg_name (i := 7) nd rfl (Or.inl rfl)) (pgs_cons (pg_name (i := 8) nd rfl (Or.inl rfl)) pgs_nil))))
          (pss_cons (ps_if (pt_cmpR (op_neD hr.units) (pe_call GR hk (by rfl) gR FR.kp bR .nil pass0 (pa_cons (pv 5) pa_nil)) (pe_ifExp (pt_cmpR op_isN (pv 8) pe_non (nomark _)) (pv 7) (pe_tup (pa_cons pe_int (pa_cons (pv 8) pa_nil)))) (nomark _)) (pss_one (ps_ret pe_bl)) pss_nil)
          (pss_one (ps_if (PW.pt (pw_and (pt_cmpR op_isN (pv 8) pe_non (nomark _)) (pw_and1 (pt_cmpR op_ne (pe_callTy (call_strIns GS hr sS sF bS pass0) (by rfl) mstr (by decide +kernel) (pa_cons (pe_stat (pe_glob (v := .ref C) (by rfl) T.mgC rfl) S GM hk bM passF (pa_cons (pv 5) pa_nil)) pa_nil)) (pv 5) (nomark _))))) (pss_one (ps_ret pe_bl)) pss_nil))))))))))))
      (pss_cons (ps_set (i := 9) nd rfl (.inl rfl) (pe_call GP hk (by rfl) gP FP.kp bP .nil pass0 (pa_cons (pv 1) (pa_cons (pe_lst (pa_cons pe_non (pa_cons pe_int (pa_cons pe_bl (pa_cons (pe_lst (pa_cons pe_str (pa_cons pe_str (pa_cons pe_str pa_nil)))) (pa_cons (pe_tup (pa_cons pe_str pa_nil)) (pa_cons pe_dnewK pa_nil))))))) pa_nil))))
      (pss_cons (ps_set (i := 10) nd rfl (.inl rfl) (pe_call GP hk (by rfl) gP FP.kp bP .nil pass0 (pa_cons (pv 1) (pa_cons (pe_lst (pa_cons pe_int (pa_cons pe_int (pa_cons pe_int pa_nil)))) pa_nil))))
      (pss_cons (ps_set (i := 11) nd rfl (.inl rfl) (pe_bm PySem.F.plainAttrs_str PySem.F.slot_str_join PySem.F.type_str_join mt_join pe_str (pa_cons (pe_op op_rep (pe_lst (pa_cons pe_str pa_nil)) (pv 10)) pa_nil)))
      (pss_one (ps_ret (pe_and (pe_cmpR (op_eqD hr.units) (pe_call GR hk (by rfl) gR FR.kp bR .nil pass0 (pa_cons (pv 9) pa_nil)) (pe_tup (pa_cons pe_int (pa_cons pe_int pa_nil))) (nomark _))
        (pe_one (pe_cmpR (op_eqD hr.units) (pe_call GR hk (by rfl) gR FR.kp bR .nil pass0 (pa_cons (pv 11) pa_nil)) (pe_ifExp (pt_cmpR op_lt (pv 10) pe_int (nomark _))
          (pe_lc (own := [("place", 12)]) (g := gName 12) (tt := tYes) (te := tLst tNil) rfl nd (pi_range1 (by rfl) mrange (pa_cons (pv 10) pa_nil)) (blkOk_by (N := nLaw) (sc := defScope sLaw) (by decide +kernel)) (fun _ _ _ _ _ => pg_name (i := 12) nd rfl (Or.inl rfl)) (fun _ _ _ _ _ => pts_nil) (fun _ _ _ _ _ => pe_lst pa_nil))
          (pe_tup (pa_cons pe_int (pa_cons pe_int pa_nil)))) (nomark _)))))))))), ?_⟩
    refine ⟨.ref a, rfl, a, ns, rfl, hS, by omega, fun t c0 H1 ht hc sm T0 => ?_⟩
    dsimp only [gName]
    refine Evl.q_forR1 (n := 3) (Evl.ea_cons Evl.ev_c Evl.ea_nil) ⟨by decide, by decide⟩ (fun i σ' H' => ∃ y2 y3 y4 y5 y6 y7 y8 y9 y10 y11 y12, σ' = [some (.ref a), some (.ref t), y2, y3, y4, y5, y6, y7, y8, y9, y10, y11, y12] ∧ Tub H' t c0 (300 * i))
      (fun H2 e2 => ⟨none, none, none, none, none, none, none, none, none, none, none, rfl, (T0.ex e2).mono (by omega)⟩) ?_ ?_
    · rintro i σ' H' hi ⟨y2, y3, y4, y5, y6, y7, y8, y9, y10, y11, y12, rfl, T1⟩
      clear T0 sm hc ht hS
      refine ⟨.ref t, rfl, t, c0, 300 * i, rfl, T1, by omega, fun A as ts G1 w1 hT h8 => ?_⟩
      have hL1 : LL G1 A ts := ⟨as, w1.lst, w1.len, fun j b ns hb hn => (w1.row j b ns hb hn).2.2⟩
      have T2 := w1.tub
      clear w1 T1
      dsimp only [gName]
      refine ⟨.ref A, rfl, A, ts, rfl, hL1, hT.good, h8, fun G2 e2 => ?_⟩
      have hL2 := hL1.ex e2
      have T3 := T2.ex e2
      have htx := tx_text hT h8
      have hsm := text_small hT h8
      clear hL1 T2 e2
      dsimp only [gName]
      have mkw : ∀ {σ : L2.St} {H : Hp} {Q : VK} {G : Hp}, Evl.Ex G2 H → σ[3]? = some (some (.ref A)) → (∀ x H2, Evl.Ex H H2 → WebAt C H2 x ts → Q (.ref x) H2) → tMake C (spWebG K C CE) [] E0 (tCons (tVar 3) tNil) σ H Q := fun e h3 q => mk_go (Evl.ev_var h3) ((LL.rows (hL2.ex e)).turns hT) hT fun x H2 _ e2 wx => q x H2 e2 wx
      refine Evl.q_when (b := false) (Evl.et_or (a := false) (b := false) (Evl.et_is (Evl.et_test (Evl.ev_op (x := .str (textOf ts)) (y := .str (textOf ts)) ?_ ?_ (Evl.rv_ne rfl))) (asc_eq _)) fun _ => Evl.et_or (a := false) (b := false) ?_ fun _ => ?_) (fun z => nomatch z) fun _ G3 e3 => ?_
      · exact fun H1 e Q q => cb_go (cons_any (mkw (G := H1) e rfl fun x H2 e2 wx => str_go wx hT fun H3 e3 => q H3 (e2.trans e3)))
      · exact Evl.ev_var rfl
      · refine Evl.et_test fun H1 e Q q => op_go (call_go (vs := [.str (textOf ts)]) (Evl.ea_cons (Evl.ev_var rfl) Evl.ea_nil) fun H2 e2 => rd_txt htx (rd_good hT) (fun i h => nomatch h) fun us hu D H3 e3 hD => ?_)
        cases hu
        exact ⟨.ref A, rfl, ne_same hD.dp (hL2.ex ((e.trans e2).trans e3)).dp (llD_shaped ts) (ll_eqv ts) (q H3 (e2.trans e3))⟩
      · refine Evl.et_test fun H1 e Q q => op_go ⟨rfl, .str (textOf ts), rfl, rfl, rd_web htx (rd_good hT) fun x H2 e2 wx => mkw (G := H1) (e.trans e2) rfl fun y H3 e3 wy => own_go (wx.ex e3) (web_aside wy) (.web wy) fun H4 e4 => ?_⟩
        rw [show (decide (some ts = some ts) != true) = false from by simp]
        exact q H4 ((e2.trans e3).trans e4)
      have T4 := T3.ex e3
      clear mkw hL2 T3 e3
      refine ⟨.str (textOf ts), rfl, ?_⟩
      dsimp only
      refine Evl.s_forR1 (n := 5) (Evl.ea_cons Evl.ev_c Evl.ea_nil) ⟨by decide, by decide⟩ (fun j σ' H' => ∃ z y6 y7 y8, σ' = [some (.ref a), some (.ref t), some (.int (i : Int)), some (.ref A), some (.str (textOf ts)), some (.str z), y6, y7, y8, y9, y10, y11, y12] ∧ Asc z ∧ z.length ≤ 900 + 400 * j ∧ Tub H' t c0 (300 * i + 200 + 10 * j))
        (fun H2 e2 => ⟨_, _, _, _, rfl, htx.asc, by omega, (T4.ex e2).mono (by omega)⟩) ?_ (fun σ' H' ⟨_, _, _, _, e, _, _, T⟩ => ⟨_, _, _, _, _, _, _, _, _, _, _, e, T.mono (by show 300 * i + 200 + 10 * 5 ≤ _; omega)⟩)
      rintro j σ' H5 hj ⟨z, y6, y7, y8, rfl, hz, hzl, T5⟩
      clear T4
      obtain ⟨u, hu⟩ : ∃ u, (if (j : Int) < 3 then textOf ts else z) = u := ⟨_, rfl⟩
      have hua : Asc u := by rw [← hu]; exact (show Asc (if (j : Int) < 3 then textOf ts else z) by
        by_cases hj3 : (j : Int) < 3
        · rw [if_pos hj3]; exact htx.asc
        · rw [if_neg hj3]; exact hz)
      have hul : u.length ≤ 900 + 400 * j := by rw [← hu]; split <;> omega
      refine asg_go (call_go (vs := [.ref t, .str u]) (Evl.ea_cons (Evl.ev_var rfl) (Evl.ea_cons (Evl.ev_if (b := decide ((j : Int) < 3)) (Evl.et_test (Evl.ev_op (Evl.ev_var rfl) Evl.ev_c Evl.rv_I0)) (fun hb => ?_) fun hb => ?_) Evl.ea_nil)) fun G6 e6 => ⟨t, c0, u, _, rfl, T5.ex e6, by omega, hua, by omega, fun b G7 k7 T7 hb hbl => ?_⟩)
      · rw [if_pos (of_decide_eq_true hb)] at hu
        rw [← hu]
        exact Evl.ev_var rfl
      · rw [if_neg (of_decide_eq_false hb)] at hu
        rw [← hu]
        exact Evl.ev_var rfl
      have tb : Tx b := ⟨hb, by omega⟩
      have hbl2 : b.length ≤ 900 + 400 * (j + 1) := by omega
      have T8 := T7.mono (show 300 * i + 200 + 10 * j + 6 ≤ 300 * i + 200 + 10 * (j + 1) by omega)
      clear hu hua hul k7 T7 hbl e6 T5 hz hzl
      dsimp only
      obtain ⟨r, hr'⟩ := Rd.ex (Txt.split b " ")
      refine q_asg1 (call_go (vs := [.str b]) (Evl.ea_cons (Evl.ev_var rfl) Evl.ea_nil) fun G8 e8 => ⟨b, rfl, tb, fun i' hi' p G9 e9 hp => ?_, fun us hus p F as G9 w9 hp => ?_⟩)
      · refine ⟨p, _, rfl, Evl.st_of hp, rfl, .non, _, rfl, .int (i' : Int), _, rfl, rfl, ?_⟩
        dsimp only
        refine Evl.q_when (b := false) (Evl.et_test fun H1 e Q q => op_go (call_go (vs := [.str b]) (Evl.ea_cons (Evl.ev_var rfl) Evl.ea_nil) fun H2 e2 => rd_txt tb hi' (fun i2 h2 p2 H3 e3 hp2 => ?_) fun ts h => nomatch h)) (fun z => nomatch z) fun _ G10 e10 => ?_
        · cases h2
          refine tif_go ⟨.int (i' : Int), rfl, rfl, false, rfl, if_go (fun z => nomatch z) fun _ => tup_go (cons_c ⟨.int (i' : Int), rfl, by show 2 ≤ sizeLine; decide, fun p3 hp3 => ne_same (er_dp ((Evl.Ex.new hp3) _ _ hp2)) (er_dp upd_same) (er_shaped i') (er_eqv i') (q _ ((e2.trans e3).trans (Evl.Ex.new hp3)))⟩)⟩
        · refine ifs_go (and_go ⟨.int (i' : Int), rfl, rfl, false, rfl, if_go (fun z => nomatch z) fun _ => if_go (fun z => nomatch z) fun _ => ?_⟩)
          exact ⟨b, _, _, _, rfl, hb, hbl2, ((T8.ex e8).ex e9).ex e10⟩
      · have hT' : OkT us := by cases hus with | ok _ h => exact h
        have hF : LL G9 F us := ⟨as, w9.lst, w9.len, fun j b ns hb hn => (w9.row j b ns hb hn).2.2⟩
        refine ⟨p, _, rfl, Evl.st_of hp, rfl, .ref F, _, rfl, .non, _, rfl, rfl, ?_⟩
        dsimp only
        refine Evl.q_when (b := false) (Evl.et_test fun H1 e Q q => op_go (call_go (vs := [.str b]) (Evl.ea_cons (Evl.ev_var rfl) Evl.ea_nil) fun H2 e2 => rd_txt tb hus (fun i h => nomatch h) fun ts h2 D H3 e3 hD => ?_)) (fun z => nomatch z) fun _ G10 e10 => ?_
        · cases h2
          exact tif_go ⟨.non, rfl, rfl, true, rfl, if_go (fun _ => ⟨.ref F, rfl, ne_same hD.dp (hF.ex ((e.trans e2).trans e3)).dp (llD_shaped _) (ll_eqv _) (q H3 (e2.trans e3))⟩) fun z => nomatch z⟩
        · have hback : textOf us = b := by cases hus with | ok h _ => exact (text_back hb h).1
          refine ifs_go (and_go ⟨.non, rfl, rfl, true, rfl, if_go (fun _ => ?_) fun z => nomatch z⟩)
          refine (Evl.et_is (Evl.et_test (Evl.ev_op (x := .str (textOf us)) ?_ (Evl.ev_var (v := .str b) rfl) (Evl.rv_ne rfl))) (b := false) (by rw [hback]; exact asc_eq _)) G10 (Evl.Ex.refl _) _ fun G11 e11 => if_go (fun z => nomatch z) fun _ => ?_
          · exact fun H1 e Q q => cb_go (cons_any (stat_go rfl (rd_web tb hus fun x H2 e2 wx => str_go wx hT' fun H3 e3 => q H3 (e2.trans e3))))
          · exact ⟨b, _, _, _, rfl, hb, hbl2, (((T8.ex e8).ex w9.ex).ex e10).ex e11⟩
    · rintro σ' H' ⟨y2, y3, y4, y5, y6, y7, y8, y9, y10, y11, y12, rfl, T1⟩
      clear T0 sm hc ht hS
      have T1 : Tub H' t c0 900 := T1
      have o1 : ∀ {te : TE} {v : V} {σ : L2.St}, Evl.Ev te σ H' v → (∀ H, TxtV K H v none) → EvF te σ H' (fun v H => TxtV K H v none) := fun h r => ef_c h r
      refine asg_go (go_pickV (m := 6) (R := fun v H => TxtV K H v none) txtNo_mono rfl T1 (by omega) (ef_cons txtNo_mono (o1 Evl.ev_c fun H => .no .non rfl) (ef_cons txtNo_mono (o1 Evl.ev_c fun H => .no (.int _) rfl) (ef_cons txtNo_mono (o1 Evl.ev_c fun H => .no (.bl _) rfl)
        (ef_cons txtNo_mono (ef_l (Evl.el_lst (Evl.ea_cons Evl.ev_c (Evl.ea_cons Evl.ev_c (Evl.ea_cons Evl.ev_c Evl.ea_nil))) (by show 3 ≤ 100000; decide)) fun p H h => .no (.lst (Evl.sq_of h)) rfl)
        (ef_cons txtNo_mono (ef_u (Evl.eu_tup (Evl.ea_cons Evl.ev_c Evl.ea_nil) (by show 1 ≤ 100000; decide)) fun p H h => .no (.tup (Evl.st_of h)) rfl) (ef_cons txtNo_mono (ef_d fun p H h => .no (.dK h) rfl) ef_nil)))))) (by omega) (by omega) fun odd G1 k1 T2 hodd => ?_)
      have m1 : ∀ {te : TE} {m : Nat} {σ : L2.St}, Evl.Ev te σ G1 (.int (m : Int)) → 1 ≤ m → m ≤ 1001 → EvF te σ G1 ManyV := fun h h1 h2 => ef_c h fun _ => ⟨_, rfl, h1, h2⟩
      refine asg_go (go_pickV (m := 3) (R := ManyV) ManyV.mono rfl T2 (by omega) (ef_cons ManyV.mono (m1 (m := 1000) Evl.ev_c (by decide) (by decide)) (ef_cons ManyV.mono (m1 (m := 1001) Evl.ev_c (by decide) (by decide)) (ef_cons ManyV.mono (m1 (m := 999) Evl.ev_c (by decide) (by decide)) ef_nil))) (by omega) (by omega) fun many G2 k2 T3 hmany => ?_)
      obtain ⟨m, rfl, hm1, hm2⟩ := hmany
      have hodd2 : TxtV K G2 odd none := hodd.ex (nw_by fun b o hb h => k2 b o (fun e => by
        obtain ⟨cs, turn, rest, h1, _⟩ := T1
        rw [e, h1] at hb
        cases hb) h)
      clear hodd k1 k2 T1 T2 T3 o1 m1
      have hlen : (List.replicate m ("-" : Str)).length = m := List.length_replicate
      refine Evl.q_asg (v := .str (Txt.join " / " (List.replicate m "-"))) (ev_joinI (K := K) (ys := List.replicate m "-") (m := 1) ?_ (fun y hy => by rw [List.eq_of_mem_replicate hy]; decide) (by rw [hlen]; show m * 1 + m * 3 ≤ 16777216; omega)) fun G3 e3 => ?_
      · refine fun H1 e Q q => (Evl.el_lst (vs := [.str "-"]) (Evl.ea_cons Evl.ev_c Evl.ea_nil) (by show 1 ≤ 100000; decide)) H1 e _ fun p H2 hp e2 h2 => ⟨.int (m : Int), rfl, p, m, [.str "-"], rfl, rfl, h2, by omega, by omega, by rw [sizeLine_eq]; show 1 * ((m : Int)).toNat ≤ _; omega, fun p2 hp2 => q p2 _ (Evl.fresh_back e2 hp2) (e2.trans (Evl.Ex.new hp2)) ?_⟩
        rw [upd_same, List.map_replicate]
        show some (HO.lst (List.replicate ((m : Int)).toNat [V.str "-"]).flatten) = _
        rw [List.flatten_replicate_singleton, Int.toNat_natCast]
      · have htl := tx_long hm1 hm2
        have hodd3 := hodd2.ex e3
        clear hodd2 e3
        refine Evl.s_ret (v := .bl true) (Evl.ev_andV (a := true) (b := true) (fun H1 e Q q => op_go (call_go (vs := [odd]) (Evl.ea_cons (Evl.ev_var rfl) Evl.ea_nil) fun H2 e2 => rd_no ((hodd3.ex e).ex e2) fun p H3 e3 hp => ?_)) fun _ => fun H1 e Q q => op_go (call_go (vs := [.str (Txt.join " / " (List.replicate m "-"))]) (Evl.ea_cons (Evl.ev_var rfl) Evl.ea_nil) fun H2 e2 => ?_)) fun H4 _ => q H4
        · exact tup_go (cons_c (cons_c ⟨by show 2 ≤ sizeLine; decide, fun p2 hp2 => eq_same (er_dp (i := 0) ((Evl.Ex.new hp2) _ _ hp)) (er_dp (i := 0) upd_same) (er_shaped 0) (er_eqv 0) (q _ ((e2.trans e3).trans (Evl.Ex.new hp2)))⟩))
        · by_cases hm : m < 1001
          · refine rd_txt htl (rd_long hm1 (by omega)) (fun i h => nomatch h) fun ts h D H3 e3 hD => ?_
            cases h
            refine tif_go (Evl.et_is (Evl.et_test (Evl.ev_op (Evl.ev_var (v := .int (m : Int)) rfl) Evl.ev_c Evl.rv_I0)) (b := true) (decide_eq_true (by omega)) H3 (Evl.Ex.refl _) _ fun H5 e5 => if_go (fun _ => ?_) fun z => nomatch z)
            refine go_lcD (H := H5) (o := fun _ => .lst []) (ei_rng1c (j := (m : Int)) (n := m) (by omega) (Evl.ea_cons (Evl.ev_var rfl) Evl.ea_nil) (by omega) (by omega)) (aims_fn (j := 12)) (fun _ => rfl) (by omega) (fun i hi H6 e6 Q6 q6 => lst_go ⟨Nat.zero_le _, fun p hp => q6 p _ hp (Evl.Ex.new hp) upd_same⟩) H5 (Evl.Ex.refl _) _ fun D2 as H6 hD2 e6 h6 l6 _ r6 => ?_
            refine eq_same (hD.ex (e5.trans e6)).dp (LL.dp ⟨as, h6, by rw [l6, List.length_replicate], fun i a ns ha hn => ?_⟩) (llD_shaped _) (ll_eqv _) (q H6 ((e2.trans e3).trans (e5.trans e6)))
            rw [List.eq_of_mem_replicate (List.mem_of_getElem? hn)]
            exact (r6 i a ha).2.2
          · have : m = 1001 := by omega
            subst this
            refine rd_txt htl rd_over (fun i h p H3 e3 hp => ?_) fun ts h => nomatch h
            cases h
            refine tif_go (Evl.et_is (Evl.et_test (Evl.ev_op (Evl.ev_var (v := .int ((1001 : Nat) : Int)) rfl) Evl.ev_c Evl.rv_I0)) (b := false) (decide_eq_false (by decide)) H3 (Evl.Ex.refl _) _ fun H5 e5 => if_go (fun z => nomatch z) fun _ => ?_)
            exact tup_go (cons_c (cons_c ⟨by show 2 ≤ sizeLine; decide, fun p2 hp2 => eq_same (er_dp (i := 1999) ((Evl.Ex.new hp2) _ _ (e5 _ _ hp))) (er_dp (i := 1999) upd_same) (er_shaped 1999) (er_eqv 1999) (q _ ((e2.trans e3).trans (e5.trans (Evl.Ex.new hp2))))⟩))
end
end P04
end S_Ul
section S_Um
namespace P04
open PySem PySem.Spec PyProof.Rows L2 Tl Hk LamX
set_option maxHeartbeats 4000000 in
theorem all_mk {l : PySem.W.OpenLaw} {w : World} {K : PySem.W.Frag} {h : Heap} {mg : Str → Option Value} {qq : Program} {fa fIn fWi fLi fRo fUn fLo fIo fNi fAr fIt fTi fTt fTu fSp fWd fPk fDn fLx fLn fLl fBe fLr fLa CS CE fEI CT fTI WC fWI fWE fWS pRM fRM : Addr} (X : K.In h) (G : h.Ns mainGlobals mg) (hfa : mg "law" = some (.ref fa))
    {odIn anIn : Option Addr} {slIn : Array (Option Value)} {ocIn kVIn dcIn pmIn cdIn ctIn : Value}
    (aIn : PySem.W.nsIn K mainGlobals "is_integer" = some (some (.ref fIn)))
    (lIn : K.lookup fIn = some ⟨ocIn, odIn, .func (PySem.W.fnOf "is_integer" "is_integer" (defArgs sInteger) (defBody sInteger) (defScope sInteger) .none kVIn dcIn pmIn anIn cdIn ctIn), slIn⟩)
    (cIn : PySem.W.codeIn K cdIn "is_integer" = true)
    (kIn : PySem.W.keepIn K (.ref fIn) = true)
    {odWi anWi : Option Addr} {slWi : Array (Option Value)} {ocWi kVWi dcWi pmWi cdWi ctWi : Value}
    (aWi : PySem.W.nsIn K mainGlobals "is_within" = some (some (.ref fWi)))
    (lWi : K.lookup fWi = some ⟨ocWi, odWi, .func (PySem.W.fnOf "is_within" "is_within" (defArgs sWithin) (defBody sWithin) (defScope sWithin) .none kVWi dcWi pmWi anWi cdWi ctWi), slWi⟩)
    (cWi : PySem.W.codeIn K cdWi "is_within" = true)
    (kWi : PySem.W.keepIn K (.ref fWi) = true)
    {odLi anLi : Option Addr} {slLi : Array (Option Value)} {ocLi kVLi dcLi pmLi cdLi ctLi : Value}
    (aLi : PySem.W.nsIn K mainGlobals "is_list" = some (some (.ref fLi)))
    (lLi : K.lookup fLi = some ⟨ocLi, odLi, .func (PySem.W.fnOf "is_list" "is_list" (defArgs sList) (defBody sList) (defScope sList) .none kVLi dcLi pmLi anLi cdLi ctLi), slLi⟩)
    (cLi : PySem.W.codeIn K cdLi "is_list" = true)
    (kLi : PySem.W.keepIn K (.ref fLi) = true)
    {odRo anRo : Option Addr} {slRo : Array (Option Value)} {ocRo kVRo dcRo pmRo cdRo ctRo : Value}
    (aRo : PySem.W.nsIn K mainGlobals "is_row" = some (some (.ref fRo)))
    (lRo : K.lookup fRo = some ⟨ocRo, odRo, .func (PySem.W.fnOf "is_row" "is_row" (defArgs sRow) (defBody sRow) (defScope sRow) .none kVRo dcRo pmRo anRo cdRo ctRo), slRo⟩)
    (cRo : PySem.W.codeIn K cdRo "is_row" = true)
    (kRo : PySem.W.keepIn K (.ref fRo) = true)
    {odUn anUn : Option Addr} {slUn : Array (Option Value)} {ocUn kVUn dcUn pmUn cdUn ctUn : Value}
    (aUn : PySem.W.nsIn K mainGlobals "are_unlike" = some (some (.ref fUn)))
    (lUn : K.lookup fUn = some ⟨ocUn, odUn, .func (PySem.W.fnOf "are_unlike" "are_unlike" (defArgs sUn) (defBody sUn) (defScope sUn) .none kVUn dcUn pmUn anUn cdUn ctUn), slUn⟩)
    (cUn : PySem.W.codeIn K cdUn "are_unlike" = true)
    (kUn : PySem.W.keepIn K (.ref fUn) = true)
    {odLo anLo : Option Addr} {slLo : Array (Option Value)} {ocLo kVLo dcLo pmLo cdLo ctLo : Value}
    (aLo : PySem.W.nsIn K mainGlobals "is_lot" = some (some (.ref fLo)))
    (lLo : K.lookup fLo = some ⟨ocLo, odLo, .func (PySem.W.fnOf "is_lot" "is_lot" (defArgs sLot) (defBody sLot) (defScope sLot) .none kVLo dcLo pmLo anLo cdLo ctLo), slLo⟩)
    (cLo : PySem.W.codeIn K cdLo "is_lot" = true)
    (kLo : PySem.W.keepIn K (.ref fLo) = true)
    {odIo anIo : Option Addr} {slIo : Array (Option Value)} {ocIo kVIo dcIo pmIo cdIo ctIo : Value}
    (aIo : PySem.W.nsIn K mainGlobals "items_of" = some (some (.ref fIo)))
    (lIo : K.lookup fIo = some ⟨ocIo, odIo, .func (PySem.W.fnOf "items_of" "items_of" (defArgs sItemsOf) (defBody sItemsOf) (defScope sItemsOf) .none kVIo dcIo pmIo anIo cdIo ctIo), slIo⟩)
    (cIo : PySem.W.codeIn K cdIo "items_of" = true)
    (kIo : PySem.W.keepIn K (.ref fIo) = true)
    {odNi anNi : Option Addr} {slNi : Array (Option Value)} {ocNi kVNi dcNi pmNi cdNi ctNi : Value}
    (aNi : PySem.W.nsIn K mainGlobals "number_in" = some (some (.ref fNi)))
    (lNi : K.lookup fNi = some ⟨ocNi, odNi, .func (PySem.W.fnOf "number_in" "number_in" (defArgs sNumberIn) (defBody sNumberIn) (defScope sNumberIn) .none kVNi dcNi pmNi anNi cdNi ctNi), slNi⟩)
    (cNi : PySem.W.codeIn K cdNi "number_in" = true)
    (kNi : PySem.W.keepIn K (.ref fNi) = true)
    {odAr anAr : Option Addr} {slAr : Array (Option Value)} {ocAr kVAr dcAr pmAr cdAr ctAr : Value}
    (aAr : PySem.W.nsIn K mainGlobals "_are_turns" = some (some (.ref fAr)))
    (lAr : K.lookup fAr = some ⟨ocAr, odAr, .func (PySem.W.fnOf "_are_turns" "_are_turns" (defArgs sAreTurns) (defBody sAreTurns) (defScope sAreTurns) .none kVAr dcAr pmAr anAr cdAr ctAr), slAr⟩)
    (cAr : PySem.W.codeIn K cdAr "_are_turns" = true)
    (kAr : PySem.W.keepIn K (.ref fAr) = true)
    {odIt anIt : Option Addr} {slIt : Array (Option Value)} {ocIt kVIt dcIt pmIt cdIt ctIt : Value}
    (aIt : PySem.W.nsIn K mainGlobals "_is_turn" = some (some (.ref fIt)))
    (lIt : K.lookup fIt = some ⟨ocIt, odIt, .func (PySem.W.fnOf "_is_turn" "_is_turn" (defArgs sIsTurn) (defBody sIsTurn) (defScope sIsTurn) .none kVIt dcIt pmIt anIt cdIt ctIt), slIt⟩)
    (cIt : PySem.W.codeIn K cdIt "_is_turn" = true)
    (kIt : PySem.W.keepIn K (.ref fIt) = true)
    {odTi anTi : Option Addr} {slTi : Array (Option Value)} {ocTi kVTi dcTi pmTi cdTi ctTi : Value}
    (aTi : PySem.W.nsIn K mainGlobals "_ties_of" = some (some (.ref fTi)))
    (lTi : K.lookup fTi = some ⟨ocTi, odTi, .func (PySem.W.fnOf "_ties_of" "_ties_of" (defArgs sTies) (defBody sTies) (defScope sTies) .none kVTi dcTi pmTi anTi cdTi ctTi), slTi⟩)
    (cTi : PySem.W.codeIn K cdTi "_ties_of" = true)
    (kTi : PySem.W.keepIn K (.ref fTi) = true)
    {odTt anTt : Option Addr} {slTt : Array (Option Value)} {ocTt kVTt dcTt pmTt cdTt ctTt : Value}
    (aTt : PySem.W.nsIn K mainGlobals "_turn_text" = some (some (.ref fTt)))
    (lTt : K.lookup fTt = some ⟨ocTt, odTt, .func (PySem.W.fnOf "_turn_text" "_turn_text" (defArgs sTurnText) (defBody sTurnText) (defScope sTurnText) .none kVTt dcTt pmTt anTt cdTt ctTt), slTt⟩)
    (cTt : PySem.W.codeIn K cdTt "_turn_text" = true)
    (kTt : PySem.W.keepIn K (.ref fTt) = true)
    {odTu anTu : Option Addr} {slTu : Array (Option Value)} {ocTu kVTu dcTu pmTu cdTu ctTu : Value}
    (aTu : PySem.W.nsIn K mainGlobals "_turns_in" = some (some (.ref fTu)))
    (lTu : K.lookup fTu = some ⟨ocTu, odTu, .func (PySem.W.fnOf "_turns_in" "_turns_in" (defArgs sTurnsIn) (defBody sTurnsIn) (defScope sTurnsIn) .none kVTu dcTu pmTu anTu cdTu ctTu), slTu⟩)
    (cTu : PySem.W.codeIn K cdTu "_turns_in" = true)
    (kTu : PySem.W.keepIn K (.ref fTu) = true)
    {odSp anSp : Option Addr} {slSp : Array (Option Value)} {ocSp kVSp dcSp pmSp cdSp ctSp : Value}
    (aSp : PySem.W.nsIn K mainGlobals "_law_kiosk" = some (some (.ref fSp)))
    (lSp : K.lookup fSp = some ⟨ocSp, odSp, .func (PySem.W.fnOf "_law_kiosk" "_law_kiosk" (defArgs sTub) (defBody sTub) (defScope sTub) .none kVSp dcSp pmSp anSp cdSp ctSp), slSp⟩)
    (cSp : PySem.W.codeIn K cdSp "_law_kiosk" = true)
    (kSp : PySem.W.keepIn K (.ref fSp) = true)
    {odWd anWd : Option Addr} {slWd : Array (Option Value)} {ocWd kVWd dcWd pmWd cdWd ctWd : Value}
    (aWd : PySem.W.nsIn K mainGlobals "_law_ticket" = some (some (.ref fWd)))
    (lWd : K.lookup fWd = some ⟨ocWd, odWd, .func (PySem.W.fnOf "_law_ticket" "_law_ticket" (defArgs sScoop) (defBody sScoop) (defScope sScoop) .none kVWd dcWd pmWd anWd cdWd ctWd), slWd⟩)
    (cWd : PySem.W.codeIn K cdWd "_law_ticket" = true)
    (kWd : PySem.W.keepIn K (.ref fWd) = true)
    {odPk anPk : Option Addr} {slPk : Array (Option Value)} {ocPk kVPk dcPk pmPk cdPk ctPk : Value}
    (aPk : PySem.W.nsIn K mainGlobals "_law_pick" = some (some (.ref fPk)))
    (lPk : K.lookup fPk = some ⟨ocPk, odPk, .func (PySem.W.fnOf "_law_pick" "_law_pick" (defArgs sPick) (defBody sPick) (defScope sPick) .none kVPk dcPk pmPk anPk cdPk ctPk), slPk⟩)
    (cPk : PySem.W.codeIn K cdPk "_law_pick" = true)
    (kPk : PySem.W.keepIn K (.ref fPk) = true)
    {odDn anDn : Option Addr} {slDn : Array (Option Value)} {ocDn kVDn dcDn pmDn cdDn ctDn : Value}
    (aDn : PySem.W.nsIn K mainGlobals "_law_drawn" = some (some (.ref fDn)))
    (lDn : K.lookup fDn = some ⟨ocDn, odDn, .func (PySem.W.fnOf "_law_drawn" "_law_drawn" (defArgs sDrawn) (defBody sDrawn) (defScope sDrawn) .none kVDn dcDn pmDn anDn cdDn ctDn), slDn⟩)
    (cDn : PySem.W.codeIn K cdDn "_law_drawn" = true)
    (kDn : PySem.W.keepIn K (.ref fDn) = true)
    {odLx anLx : Option Addr} {slLx : Array (Option Value)} {ocLx kVLx dcLx pmLx cdLx ctLx : Value}
    (aLx : PySem.W.nsIn K mainGlobals "_law_text" = some (some (.ref fLx)))
    (lLx : K.lookup fLx = some ⟨ocLx, odLx, .func (PySem.W.fnOf "_law_text" "_law_text" (defArgs sLText) (defBody sLText) (defScope sLText) .none kVLx dcLx pmLx anLx cdLx ctLx), slLx⟩)
    (cLx : PySem.W.codeIn K cdLx "_law_text" = true)
    (kLx : PySem.W.keepIn K (.ref fLx) = true)
    {odLn anLn : Option Addr} {slLn : Array (Option Value)} {ocLn kVLn dcLn pmLn cdLn ctLn : Value}
    (aLn : PySem.W.nsIn K mainGlobals "_law_number" = some (some (.ref fLn)))
    (lLn : K.lookup fLn = some ⟨ocLn, odLn, .func (PySem.W.fnOf "_law_number" "_law_number" (defArgs sLNumber) (defBody sLNumber) (defScope sLNumber) .none kVLn dcLn pmLn anLn cdLn ctLn), slLn⟩)
    (cLn : PySem.W.codeIn K cdLn "_law_number" = true)
    (kLn : PySem.W.keepIn K (.ref fLn) = true)
    {odLl anLl : Option Addr} {slLl : Array (Option Value)} {ocLl kVLl dcLl pmLl cdLl ctLl : Value}
    (aLl : PySem.W.nsIn K mainGlobals "_law_look" = some (some (.ref fLl)))
    (lLl : K.lookup fLl = some ⟨ocLl, odLl, .func (PySem.W.fnOf "_law_look" "_law_look" (defArgs sLLook) (defBody sLLook) (defScope sLLook) .none kVLl dcLl pmLl anLl cdLl ctLl), slLl⟩)
    (cLl : PySem.W.codeIn K cdLl "_law_look" = true)
    (kLl : PySem.W.keepIn K (.ref fLl) = true)
    {odBe anBe : Option Addr} {slBe : Array (Option Value)} {ocBe kVBe dcBe pmBe cdBe ctBe : Value}
    (aBe : PySem.W.nsIn K mainGlobals "_law_bent" = some (some (.ref fBe)))
    (lBe : K.lookup fBe = some ⟨ocBe, odBe, .func (PySem.W.fnOf "_law_bent" "_law_bent" (defArgs sLBent) (defBody sLBent) (defScope sLBent) .none kVBe dcBe pmBe anBe cdBe ctBe), slBe⟩)
    (cBe : PySem.W.codeIn K cdBe "_law_bent" = true)
    (kBe : PySem.W.keepIn K (.ref fBe) = true)
    {odLr anLr : Option Addr} {slLr : Array (Option Value)} {ocLr kVLr dcLr pmLr cdLr ctLr : Value}
    (aLr : PySem.W.nsIn K mainGlobals "_law_read" = some (some (.ref fLr)))
    (lLr : K.lookup fLr = some ⟨ocLr, odLr, .func (PySem.W.fnOf "_law_read" "_law_read" (defArgs sLRead) (defBody sLRead) (defScope sLRead) .none kVLr dcLr pmLr anLr cdLr ctLr), slLr⟩)
    (cLr : PySem.W.codeIn K cdLr "_law_read" = true)
    (kLr : PySem.W.keepIn K (.ref fLr) = true)
    {odLa anLa : Option Addr} {slLa : Array (Option Value)} {ocLa kVLa dcLa pmLa cdLa ctLa : Value}
    (aLa : PySem.W.nsIn K mainGlobals "law" = some (some (.ref fLa)))
    (lLa : K.lookup fLa = some ⟨ocLa, odLa, .func (PySem.W.fnOf "law" "law" (defArgs sLaw) (defBody sLaw) (defScope sLaw) .none kVLa dcLa pmLa anLa cdLa ctLa), slLa⟩)
    (cLa : PySem.W.codeIn K cdLa "law" = true)
    (kLa : PySem.W.keepIn K (.ref fLa) = true)
    (aCS : PySem.W.nsIn K mainGlobals "LaneError" = some (some (.ref CS)))
    (bCS : PySem.W.subIn K (.ref CS) (.type "BaseException") = some true)
    (dCS : PySem.W.hasDictIn K CS = true)
    (tCS : PySem.W.typeIn K (.ref CS) = some (.type "type"))
    {nmCE qCE : Str} {NCE : Addr} {bsCE : List Value} {bmCE : List Value} {snCE : List Str} {subCE : List Value} {abCE : Bool} {colCE : Option Bool} {ddCE : Option Addr} {m0CE m1CE m2CE m3CE m5CE : Option Value}
    (aCE : PySem.W.nsIn K mainGlobals "BadWeb" = some (some (.ref CE)))
    (xCE : K.lookup CE = some (excClassObj nmCE qCE CE NCE bsCE bmCE true snCE subCE abCE colCE ddCE m0CE m1CE m2CE m3CE m5CE "ValueError.__new__"))
    (vCE : PySem.HandSPX.refsVE bmCE = true)
    (saCE : PySem.W.findIn K (.ref CE) "__setattr__" = some (some (.builtin "object.__setattr__")))
    (gaCE : PySem.W.findIn K (.ref CE) "__getattribute__" = some (some (.builtin "BaseException.__getattribute__")))
    (ggCE : PySem.W.findIn K (.ref CE) "__getattr__" = some none)
    (noCE : PySem.W.findIn K (.ref CE) "part" = some none)
    (keCE : PySem.W.keepIn K (.ref CE) = true)
    (exCE : PySem.W.subIn K (.ref CE) (.type "BaseException") = some true)
    (tyCE : PySem.W.typeIn K (.ref CE) = some (.type "type"))
    (hdCE : PySem.W.hasDictIn K CE = true)
    (ciCE : PySem.W.isClsIn K CE = true)
    (haCE : PySem.W.findIn K (.ref CE) "__class__" = some (some (.builtin "object.__class__")))
    (hmCE : PySem.W.mroIn K CE (.type "object") = some true)
    (suCE : PySem.W.subIn K (.ref CE) (.ref CS) = some true)
    (kiCE : PySem.W.kitOne K (.ref CE) (.ref CE) = some true)
    {odfEI anfEI : Option Addr} {slfEI : Array (Option Value)} {ocfEI dcfEI pmfEI cdfEI ctfEI : Value}
    (afEI : PySem.W.findIn K (.ref CE) "__init__" = some (some (.ref fEI)))
    (tfEI : PySem.W.typeIn K (.ref fEI) = some (.type "function"))
    (lfEI : K.lookup fEI = some ⟨ocfEI, odfEI, .func (PySem.W.fnOf "__init__" "BadWeb.__init__" (defArgs (inClass sWebC 0)) (defBody (inClass sWebC 0)) (defScope (inClass sWebC 0)) .none .none dcfEI pmfEI anfEI cdfEI ctfEI), slfEI⟩)
    (cfEI : PySem.W.codeIn K cdfEI "BadWeb.__init__" = true)
    (hn : PySem.W.specialIn K (.builtin "object.__class__") "__get__" = some (some (.builtin "getset_descriptor.__get__")))
    (ht : PySem.W.takesIn K (.builtin "object.__class__") = some true)
    {nmCT qCT : Str} {NCT : Addr} {bsCT : List Value} {bmCT : List Value} {snCT : List Str} {subCT : List Value} {abCT : Bool} {colCT : Option Bool} {ddCT : Option Addr} {m0CT m1CT m2CT m3CT m5CT : Option Value}
    (aCT : PySem.W.nsIn K mainGlobals "BadText" = some (some (.ref CT)))
    (xCT : K.lookup CT = some (excClassObj nmCT qCT CT NCT bsCT bmCT true snCT subCT abCT colCT ddCT m0CT m1CT m2CT m3CT m5CT "ValueError.__new__"))
    (vCT : PySem.HandSPX.refsVE bmCT = true)
    (sa_CT : PySem.W.findIn K (.ref CT) "__setattr__" = some (some (.builtin "object.__setattr__")))
    (ga_CT : PySem.W.findIn K (.ref CT) "__getattribute__" = some (some (.builtin "BaseException.__getattribute__")))
    (gg_CT : PySem.W.findIn K (.ref CT) "__getattr__" = some none)
    (nl_CT : PySem.W.findIn K (.ref CT) "line" = some none)
    (ni_CT : PySem.W.findIn K (.ref CT) "item" = some none)
    (ke_CT : PySem.W.keepIn K (.ref CT) = true)
    (ex_CT : PySem.W.subIn K (.ref CT) (.type "BaseException") = some true)
    (ty_CT : PySem.W.typeIn K (.ref CT) = some (.type "type"))
    (hd_CT : PySem.W.hasDictIn K CT = true)
    (su_CT : PySem.W.subIn K (.ref CT) (.ref CT) = some true)
    {odfTI anfTI : Option Addr} {slfTI : Array (Option Value)} {ocfTI kVfTI dcfTI pmfTI cdfTI ctfTI : Value}
    (afTI : PySem.W.findIn K (.ref CT) "__init__" = some (some (.ref fTI)))
    (tfTI : PySem.W.typeIn K (.ref fTI) = some (.type "function"))
    (lfTI : K.lookup fTI = some ⟨ocfTI, odfTI, .func (PySem.W.fnOf "__init__" "BadText.__init__" (defArgs sTxtI) (defBody sTxtI) (defScope sTxtI) .none kVfTI dcfTI pmfTI anfTI cdfTI ctfTI), slfTI⟩)
    (cfTI : PySem.W.codeIn K cdfTI "BadText.__init__" = true)
    (aWC : PySem.W.nsIn K mainGlobals "Web" = some (some (.ref WC)))
    {odWI anWI : Option Addr} {slWI : Array (Option Value)} {ocWI kVWI dcWI pmWI cdWI ctWI : Value}
    (aWI : PySem.W.findIn K (.ref WC) "__init__" = some (some (.ref fWI)))
    (iWI : PySem.W.isFn K (.ref fWI) = true)
    (lWI : K.lookup fWI = some ⟨ocWI, odWI, .func (PySem.W.fnOf "__init__" "Web.__init__" (defArgs sWebI) (defBody sWebI) (defScope sWebI) .none kVWI dcWI pmWI anWI cdWI ctWI), slWI⟩)
    (cWI : PySem.W.codeIn K cdWI "Web.__init__" = true)
    (kWI : PySem.W.keepIn K (.ref fWI) = true)
    {odWE anWE : Option Addr} {slWE : Array (Option Value)} {ocWE kVWE dcWE pmWE cdWE ctWE : Value}
    (aWE : PySem.W.findIn K (.ref WC) "__eq__" = some (some (.ref fWE)))
    (iWE : PySem.W.isFn K (.ref fWE) = true)
    (lWE : K.lookup fWE = some ⟨ocWE, odWE, .func (PySem.W.fnOf "__eq__" "Web.__eq__" (defArgs sWebE) (defBody sWebE) (defScope sWebE) .none kVWE dcWE pmWE anWE cdWE ctWE), slWE⟩)
    (cWE : PySem.W.codeIn K cdWE "Web.__eq__" = true)
    (kWE : PySem.W.keepIn K (.ref fWE) = true)
    {odWS anWS : Option Addr} {slWS : Array (Option Value)} {ocWS kVWS dcWS pmWS cdWS ctWS : Value}
    (aWS : PySem.W.findIn K (.ref WC) "__str__" = some (some (.ref fWS)))
    (iWS : PySem.W.isFn K (.ref fWS) = true)
    (lWS : K.lookup fWS = some ⟨ocWS, odWS, .func (PySem.W.fnOf "__str__" "Web.__str__" (defArgs sWebS) (defBody sWebS) (defScope sWebS) .none kVWS dcWS pmWS anWS cdWS ctWS), slWS⟩)
    (cWS : PySem.W.codeIn K cdWS "Web.__str__" = true)
    (kWS : PySem.W.keepIn K (.ref fWS) = true)
    {moRM : List Value} {odRM anRM : Option Addr} {slRM : Array (Option Value)} {ocRM kVRM dcRM pmRM cdRM ctRM : Value}
    (rdRM : PySem.W.readsIn K WC (.type "type") = true)
    (gaRM : PySem.W.specialIn K (.ref WC) "__getattribute__" = some (some (.builtin "type.__getattribute__")))
    (fcRM : PySem.W.findCls K (.ref WC) (.type "type") "read" = some (.get (.builtin "staticmethod.__get__") (.ref pRM) .none (.ref WC)))
    (rcRM : PySem.W.recIn K pRM "staticmethod" = some (.ref fRM :: moRM))
    (lRM : K.lookup fRM = some ⟨ocRM, odRM, .func (PySem.W.fnOf "read" "Web.read" (defArgs sRead) (defBody sRead) (defScope sRead) .none kVRM dcRM pmRM anRM cdRM ctRM), slRM⟩)
    (cRM : PySem.W.codeIn K cdRM "Web.read" = true)
    (kRM : PySem.W.keepIn K (.ref fRM) = true)
    (pgWC : PySem.W.plainGet K WC Str.empty = true)
    (hdWC : PySem.W.hasDictIn K WC = true)
    (poWC : PySem.W.plainOver K WC = true)
    (saWC : PySem.W.findIn K (.ref WC) "__setattr__" = some (some (.builtin "object.__setattr__")))
    (mkWC : PySem.W.makesIn K WC = true)
    (kcWC : PySem.W.keepIn K (.ref WC) = true)
    (nWC_turns : PySem.W.findIn K (.ref WC) "turns" = some none)
    (nWC_many : PySem.W.findIn K (.ref WC) "many" = some none)
    (nWC_ties : PySem.W.findIn K (.ref WC) "ties" = some none)
    (thWC : PySem.W.findIn K (.ref WC) "__class__" = some (some (.builtin "object.__class__")))
    (tmWC : PySem.W.mroIn K WC (.type "object") = some true)
    (tkWC : PySem.W.kitOne K (.ref WC) (.ref WC) = some true)
    (neWC : PySem.W.findIn K (.ref WC) "__ne__" = some (some (.builtin "object.__ne__")))
    (y0WC : PySem.W.kitOne K (.type "NoneType") (.ref WC) = some false)
    (y1WC : PySem.W.kitOne K (.type "bool") (.ref WC) = some false)
    (y2WC : PySem.W.kitOne K (.type "int") (.ref WC) = some false)
    (y3WC : PySem.W.kitOne K (.type "str") (.ref WC) = some false)
    (y4WC : PySem.W.kitOne K (.type "list") (.ref WC) = some false)
    (y5WC : PySem.W.kitOne K (.type "tuple") (.ref WC) = some false)
    (y6WC : PySem.W.kitOne K (.type "dict") (.ref WC) = some false)
    {tM1 tM2 : Tok}
    (zM1 : PySem.W.nsIn K mainGlobals "MOST_PLACES" = some (some (.int 1000 tM1)))
    (zM2 : PySem.W.nsIn K mainGlobals "MOST_DIGITS" = some (some (.int 140 tM2)))
    (z_int : PySem.W.nsIn K mainGlobals "int" = some none)
    (z_bool : PySem.W.nsIn K mainGlobals "bool" = some none)
    (z_list : PySem.W.nsIn K mainGlobals "list" = some none)
    (z_tuple : PySem.W.nsIn K mainGlobals "tuple" = some none)
    (z_str : PySem.W.nsIn K mainGlobals "str" = some none)
    (z_isinstance : PySem.W.nsIn K mainGlobals "isinstance" = some none)
    (z_all : PySem.W.nsIn K mainGlobals "all" = some none)
    (z_len : PySem.W.nsIn K mainGlobals "len" = some none)
    (z_abs : PySem.W.nsIn K mainGlobals "abs" = some none)
    (z_range : PySem.W.nsIn K mainGlobals "range" = some none)
    (z_set : PySem.W.nsIn K mainGlobals "set" = some none)
    (z_sorted : PySem.W.nsIn K mainGlobals "sorted" = some none)
    (z_enumerate : PySem.W.nsIn K mainGlobals "enumerate" = some none)
    : ∃ (fd : FuncData) (Ts : List (Addr × Addr)) (sp : Sp), (∀ p ∈ Ts, TabOf K mg qq p) ∧ (∀ (s : Shared) (u : Value), BindsTo s fd ⟨[u], []⟩ [("script", u)]) ∧
        (∀ (H : Hp) (a : Addr) (ns : List Int), ns.length ≤ 63 → (∀ p ∈ Ts, H p.2 = some (.tbl #[])) → SqL K H a (ns.map V.int) → sp [.ref a] H (fun v _ => v = .bl true) fun _ _ _ => False) ∧
        ∀ base : Heap, K.In base → base.Ns mainGlobals mg → (∀ p ∈ Ts, TabB base mg p.1 p.2) → FnG l.prog w K mg base 14 fa fd ["script"] sp := by
  have e := hfa.symm.trans (PySem.W.mg_of X G aLa)
  cases e
  have FIn := fun_mk (st := sInteger) lIn cIn kIn
  have bIn := FIn.binds (ps := ["value"]) fun _ _ _ _ _ _ us hl => match us, hl with | [_], _ => rfl
  have FWi := fun_mk (st := sWithin) lWi cWi kWi
  have bWi := FWi.binds (ps := ["value", "least", "most"]) fun _ _ _ _ _ _ us hl => match us, hl with | [_, _, _], _ => rfl
  have FLi := fun_mk (st := sList) lLi cLi kLi
  have bLi := FLi.binds (ps := ["value"]) fun _ _ _ _ _ _ us hl => match us, hl with | [_], _ => rfl
  have FRo := fun_mk (st := sRow) lRo cRo kRo
  have bRo := FRo.binds (ps := ["value", "least", "most"]) fun _ _ _ _ _ _ us hl => match us, hl with | [_, _, _], _ => rfl
  have FUn := fun_mk (st := sUn) lUn cUn kUn
  have bUn := FUn.binds (ps := ["value", "least"]) fun _ _ _ _ _ _ us hl => match us, hl with | [_, _], _ => rfl
  have FLo := fun_mk (st := sLot) lLo cLo kLo
  have bLo := FLo.binds (ps := ["value"]) fun _ _ _ _ _ _ us hl => match us, hl with | [_], _ => rfl
  have FIo := fun_mk (st := sItemsOf) lIo cIo kIo
  have bIo := FIo.binds (ps := ["text"]) fun _ _ _ _ _ _ us hl => match us, hl with | [_], _ => rfl
  have FNi := fun_mk (st := sNumberIn) lNi cNi kNi
  have bNi := FNi.binds (ps := ["item", "least", "most"]) fun _ _ _ _ _ _ us hl => match us, hl with | [_, _, _], _ => rfl
  have FAr := fun_mk (st := sAreTurns) lAr cAr kAr
  have bAr := FAr.binds (ps := ["turns"]) fun _ _ _ _ _ _ us hl => match us, hl with | [_], _ => rfl
  have FIt := fun_mk (st := sIsTurn) lIt cIt kIt
  have bIt := FIt.binds (ps := ["turn", "place", "many"]) fun _ _ _ _ _ _ us hl => match us, hl with | [_, _, _], _ => rfl
  have FTi := fun_mk (st := sTies) lTi cTi kTi
  have bTi := FTi.binds (ps := ["turns"]) fun _ _ _ _ _ _ us hl => match us, hl with | [_], _ => rfl
  have FTt := fun_mk (st := sTurnText) lTt cTt kTt
  have bTt := FTt.binds (ps := ["turn"]) fun _ _ _ _ _ _ us hl => match us, hl with | [_], _ => rfl
  have FTu := fun_mk (st := sTurnsIn) lTu cTu kTu
  have bTu := FTu.binds (ps := ["items"]) fun _ _ _ _ _ _ us hl => match us, hl with | [_], _ => rfl
  have FSp := fun_mk (st := sTub) lSp cSp kSp
  have bSp := FSp.binds (ps := ["script"]) fun _ _ _ _ _ _ us hl => match us, hl with | [_], _ => rfl
  have FWd := fun_mk (st := sScoop) lWd cWd kWd
  have bWd := FWd.binds (ps := ["kiosk", "many"]) fun _ _ _ _ _ _ us hl => match us, hl with | [_, _], _ => rfl
  have FPk := fun_mk (st := sPick) lPk cPk kPk
  have bPk := FPk.binds (ps := ["kiosk", "some"]) fun _ _ _ _ _ _ us hl => match us, hl with | [_, _], _ => rfl
  have FDn := fun_mk (st := sDrawn) lDn cDn kDn
  have bDn := FDn.binds (ps := ["kiosk"]) fun _ _ _ _ _ _ us hl => match us, hl with | [_], _ => rfl
  have FLx := fun_mk (st := sLText) lLx cLx kLx
  have bLx := FLx.binds (ps := ["turns"]) fun _ _ _ _ _ _ us hl => match us, hl with | [_], _ => rfl
  have FLn := fun_mk (st := sLNumber) lLn cLn kLn
  have bLn := FLn.binds (ps := ["item"]) fun _ _ _ _ _ _ us hl => match us, hl with | [_], _ => rfl
  have FLl := fun_mk (st := sLLook) lLl cLl kLl
  have bLl := FLl.binds (ps := ["text"]) fun _ _ _ _ _ _ us hl => match us, hl with | [_], _ => rfl
  have FBe := fun_mk (st := sLBent) lBe cBe kBe
  have bBe := FBe.binds (ps := ["kiosk", "text"]) fun _ _ _ _ _ _ us hl => match us, hl with | [_, _], _ => rfl
  have FLr := fun_mk (st := sLRead) lLr cLr kLr
  have bLr := FLr.binds (ps := ["text"]) fun _ _ _ _ _ _ us hl => match us, hl with | [_], _ => rfl
  have FLa := fun_mk (st := sLaw) lLa cLa kLa
  have bLa := FLa.binds (ps := ["script"]) fun _ _ _ _ _ _ us hl => match us, hl with | [_], _ => rfl
  have n : ∀ {x : Str}, PySem.W.nsIn K mainGlobals x = some none → mg x = none := fun h => PySem.W.mg_none_of X G h
  have g : ∀ {x : Str} {v : Value}, PySem.W.nsIn K mainGlobals x = some (some v) → mg x = some v := fun h => PySem.W.mg_of X G h
  have ECE : ErrC K CE := ⟨gaCE, ggCE, exCE, hdCE, ciCE, haCE, hn, ht, hmCE⟩
  have PCE : PySem.PartX.PartTxt K mg "BadWeb" "BadWeb.__init__" CE fEI := { gC := g aCE, cls := ⟨_, _, _, _, _, _, _, _, _, _, _, _, _, _, _, xCE, vCE⟩, sa := saCE, ga := gaCE, gg := ggCE, noN := noCE, iC := afEI, tC := tfEI, kC := keCE, exC := exCE, tyC := tyCE, hdC := hdCE, fn := ⟨_, _, _, _, _, _, _, _, _, _, _, _, _, _, lfEI, cfEI⟩ }
  have FWI := fun_mk (st := sWebI) lWI cWI kWI
  have bWI := FWI.binds (ps := ["self", "turns"]) fun _ _ _ _ _ _ us hl => match us, hl with | [_, _], _ => rfl
  have FWE := fun_mk (st := sWebE) lWE cWE kWE
  have bWE := FWE.binds (ps := ["self", "other"]) fun _ _ _ _ _ _ us hl => match us, hl with | [_, _], _ => rfl
  have FWS := fun_mk (st := sWebS) lWS cWS kWS
  have bWS := FWS.binds (ps := ["self"]) fun _ _ _ _ _ _ us hl => match us, hl with | [_], _ => rfl
  have FRM := fun_mk (st := sRead) lRM cRM kRM
  have bRM := FRM.binds (ps := ["text"]) fun _ _ _ _ _ _ us hl => match us, hl with | [_], _ => rfl
  have kRMb := kbn_of FRM (ps := ["text"]) 0 ["text"] (fun us ws => just1 us ws) (fun _ r => r) fun _ _ _ _ _ _ us ws h1 h2 => match us, ws, h1, h2 with | [], [_], _, _ => rfl
  have bTI : Binds K (PySem.W.fnOf "__init__" "BadText.__init__" (defArgs sTxtI) (defBody sTxtI) (defScope sTxtI) .none kVfTI dcfTI pmfTI anfTI cdfTI ctfTI) ["self", "line", "item"] [] := fun s us _ hl => .of_eq (match us, hl with | [_, _, _], _ => rfl)
  have OM : OexC K CT := ⟨⟨_, _, _, _, _, _, _, _, _, _, _, _, _, _, _, xCT, vCT⟩, sa_CT, ex_CT, ty_CT, ke_CT⟩
  have XM : XfC K CT := ⟨ga_CT, gg_CT, ex_CT, hd_CT⟩
  have TW : TWeb K mg WC := ⟨⟨pgWC, hdWC, poWC, saWC⟩, nWC_turns, nWC_many, nWC_ties, g aWC⟩
  have IW : TIns K WC := ⟨thWC, hn, ht, tmWC, tkWC⟩
  have MW : Mk K WC fWI := ⟨mkWC, aWI, iWI, kcWC⟩
  have SM : EnL.Stat K WC (.type "type") "read" pRM fRM := ⟨⟨rdRM, gaRM⟩, fcRM, ⟨_, rcRM⟩, kRM⟩
  have NW : TKit K WC := fun n hn => by
    simp only [tys, List.mem_cons, List.not_mem_nil, or_false] at hn
    rcases hn with rfl | rfl | rfl | rfl | rfl | rfl | rfl
    · exact y0WC
    · exact y1WC
    · exact y2WC
    · exact y3WC
    · exact y4WC
    · exact y5WC
    · exact y6WC
  refine ⟨PySem.W.fnOf "law" "law" (defArgs sLaw) (defBody sLaw) (defScope sLaw) .none kVLa dcLa pmLa anLa cdLa ctLa, [], spLaw K, (fun p hp => nomatch hp), fun s v => .of_eq rfl, fun H a ns hl _ hS => ⟨a, ns, rfl, hS, hl, fun _ => rfl⟩, fun base _ _ _ => ?_⟩
  have GIn := ok_integer (P := l.prog) (w := w) (mg := mg) (base := base) (k := 0) FIn (n z_isinstance) (n z_int) (n z_bool)
  have GWi := ok_within (P := l.prog) (w := w) (mg := mg) (base := base) (k := 1) FWi FIn GIn bIn (g aIn)
  have GLi := ok_list (P := l.prog) (w := w) (mg := mg) (base := base) (k := 0) FLi (n z_isinstance) (n z_list) (n z_tuple)
  have GRo := ok_row (P := l.prog) (w := w) (mg := mg) (base := base) (k := 2) FRo FWi GWi bWi (g aWi) FLi (GLi.mono (by decide)) bLi (g aLi) (n z_all)
  have GUn := ok_unlike (P := l.prog) (w := w) (mg := mg) (base := base) (k := 3) FUn FRo GRo bRo (g aRo) (n z_len) (n z_set)
  have GLo := ok_lot (P := l.prog) (w := w) (mg := mg) (base := base) (k := 4) FLo FUn GUn bUn (g aUn)
  have GIt := ok_isTurnG (P := l.prog) (w := w) (mg := mg) (base := base) (k := 5) FIt FLo GLo bLo (g aLo) (n z_all)
  have GAr := ok_areG (P := l.prog) (w := w) (mg := mg) (base := base) (k := 6) FAr FWi (GWi.mono (by decide)) bWi (g aWi) FLi (GLi.mono (by decide)) bLi (g aLi) FIt GIt bIt (g aIt) (g zM1) (n z_all) (n z_len) (n z_enumerate)
  have GTi := ok_ties (P := l.prog) (w := w) (mg := mg) (base := base) (k := 6) FTi (n z_tuple) (n z_sorted) (n z_enumerate)
  have GWI := ok_webG (P := l.prog) (w := w) (mg := mg) (base := base) (k := 5) FWI TW FAr GAr bAr (g aAr) FTi GTi bTi (g aTi) PCE (n z_tuple) (n z_len)
  have GTt := ok_turnText (P := l.prog) (w := w) (mg := mg) (base := base) (k := 0) FTt (n z_str)
  have GWS := ok_webS (P := l.prog) (w := w) (mg := mg) (base := base) (k := 10) FWS TW FTt (GTt.mono (by decide)) bTt (g aTt)
  have GWE := ok_eqG (P := l.prog) (w := w) (mg := mg) (base := base) (k := 10) FWE TW IW NW (n z_isinstance)
  have GTI := ok_txtI (P := l.prog) (w := w) (mg := mg) (base := base) (k := 0) OM nl_CT ni_CT lfTI cfTI
  have GNi := ok_numberIn (P := l.prog) (w := w) (mg := mg) (base := base) (k := 2) FNi FWi GWi bWi (g aWi) (g zM2) (n z_len) (n z_int)
  have GTu := ok_turnsIn (P := l.prog) (w := w) (mg := mg) (base := base) (k := 6) FTu FNi (GNi.mono (by decide)) bNi (g aNi) OM afTI tfTI (GTI.mono (by decide)) bTI (g aCT) (g zM1) (n z_len) (n z_enumerate)
  have GIo := ok_items (P := l.prog) (w := w) (mg := mg) (base := base) (k := 6) FIo OM afTI tfTI (GTI.mono (by decide)) bTI (g aCT) (n z_isinstance) (n z_str)
  have GRM := ok_read (P := l.prog) (w := w) (mg := mg) (base := base) (k := 6) FRM FIo GIo bIo (g aIo) FTu GTu bTu (g aTu) FAr (GAr.mono (by decide)) bAr (g aAr) TW MW GWI bWI OM afTI tfTI (GTI.mono (by decide)) bTI (g aCT) (n z_len)
  have GSp := ok_tub (P := l.prog) (w := w) (mg := mg) (base := base) (k := 10) FSp (n z_int)
  have GWd := ok_scoop (P := l.prog) (w := w) (mg := mg) (base := base) (k := 0) FWd (n z_int) (n z_len) (n z_abs)
  have GPk := ok_pick (P := l.prog) (w := w) (mg := mg) (base := base) (k := 1) FPk FWd GWd bWd (g aWd) (n z_len)
  have GDn := ok_drawn (P := l.prog) (w := w) (mg := mg) (base := base) (k := 10) FDn FWd (GWd.mono (by decide)) bWd (g aWd) FPk (GPk.mono (by decide)) bPk (g aPk) (n z_len) (n z_range)
  have GLx := ok_lText (P := l.prog) (w := w) (mg := mg) (base := base) (k := 10) FLx (n z_str)
  have GLn := ok_lNumber (P := l.prog) (w := w) (mg := mg) (base := base) (k := 9) FLn (n z_len) (n z_int)
  have GLl := ok_look (P := l.prog) (w := w) (mg := mg) (base := base) (k := 10) FLl FLn GLn bLn (g aLn) (n z_len) (n z_enumerate)
  have GBe := ok_bt (P := l.prog) (w := w) (mg := mg) (base := base) (k := 10) FBe FWd (GWd.mono (by decide)) bWd (g aWd) FPk (GPk.mono (by decide)) bPk (g aPk) (n z_len)
  have GLr := ok_rd (P := l.prog) (w := w) (mg := mg) (base := base) (k := 10) FLr TW SM GRM bRM (g aCT) XM nl_CT ni_CT (PySem.W.exm_ref ex_CT hd_CT ty_CT su_CT) (n z_list)
  exact ok_law (k := 11) FLa FSp GSp bSp (g aSp) FDn GDn bDn (g aDn) FLx GLx bLx (g aLx) FPk (GPk.mono (by decide)) bPk (g aPk) FBe GBe bBe (g aBe) FLl GLl bLl (g aLl) FLr GLr bLr (g aLr) SM (GRM.mono (by decide)) bRM kRMb TW MW (GWI.mono (by decide)) bWI aWS iWS GWS bWS aWE iWE neWC tmWC GWE bWE (n z_str) (n z_range)
end P04
end S_Um
open PySem PySem.W PyProof.Rows
set_option maxRecDepth 100000 in
set_option maxHeartbeats 0 in
theorem PySem.Challenge.cw_threelanes_k04_texts_of_webs_bent_holds : PySem.Challenge.rw_threelanes_k04_texts_of_webs_bent.Holds := by
  w_on; o_law; k_head; (case hw => w_witness2)
  k_fill
  refine Hk.walk_gTs (l := PySem.Challenge.rw_threelanes_k04_texts_of_webs_bent) (n := 63) (k := 14) (x := "script") rfl (by decide) rfl ⟨rfl, by decide, by decide⟩ (fun w h Y => PySem.W.kIn_of Y) ?F
  case F =>
    intro w mg fa h KX G hmg
    refine' P04.all_mk KX G hmg ?aIn ?lIn ?cIn ?kIn ?aWi ?lWi ?cWi ?kWi ?aLi ?lLi ?cLi ?kLi ?aRo ?lRo ?cRo ?kRo ?aUn ?lUn ?cUn ?kUn ?aLo ?lLo ?cLo ?kLo ?aIo ?lIo ?cIo ?kIo ?aNi ?lNi ?cNi ?kNi ?aAr ?lAr ?cAr ?kAr ?aIt ?lIt ?cIt ?kIt ?aTi ?lTi ?cTi ?kTi ?aTt ?lTt ?cTt ?kTt ?aTu ?lTu ?cTu ?kTu ?aSp ?lSp ?cSp ?kSp ?aWd ?lWd ?cWd ?kWd ?aPk ?lPk ?cPk ?kPk ?aDn ?lDn ?cDn ?kDn ?aLx ?lLx ?cLx ?kLx ?aLn ?lLn ?cLn ?kLn ?aLl ?lLl ?cLl ?kLl ?aBe ?lBe ?cBe ?kBe ?aLr ?lLr ?cLr ?kLr ?aLa ?lLa ?cLa ?kLa ?aCS ?bCS ?dCS ?tCS ?aCE ?xCE ?vCE ?saCE ?gaCE ?ggCE ?noCE ?keCE ?exCE ?tyCE ?hdCE ?ciCE ?haCE ?hmCE ?suCE ?kiCE ?afEI ?tfEI ?lfEI ?cfEI ?hn ?ht ?aCT ?xCT ?vCT ?sa_CT ?ga_CT ?gg_CT ?nl_CT ?ni_CT ?ke_CT ?ex_CT ?ty_CT ?hd_CT ?su_CT ?afTI ?tfTI ?lfTI ?cfTI ?aWC ?aWI ?iWI ?lWI ?cWI ?kWI ?aWE ?iWE ?lWE ?cWE ?kWE ?aWS ?iWS ?lWS ?cWS ?kWS ?rdRM ?gaRM ?fcRM ?rcRM ?lRM ?cRM ?kRM ?pgWC ?hdWC ?poWC ?saWC ?mkWC ?kcWC ?nWC_turns ?nWC_many ?nWC_ties ?thWC ?tmWC ?tkWC ?neWC ?y0WC ?y1WC ?y2WC ?y3WC ?y4WC ?y5WC ?y6WC ?zM1 ?zM2 ?z_int ?z_bool ?z_list ?z_tuple ?z_str ?z_isinstance ?z_all ?z_len ?z_abs ?z_range ?z_set ?z_sorted ?z_enumerate
    (case aIn => k_is)
    (case lIn => k_is)
    (case cIn => k_is)
    (case kIn => k_is)
    (case aWi => k_is)
    (case lWi => k_is)
    (case cWi => k_is)
    (case kWi => k_is)
    (case aLi => k_is)
    (case lLi => k_is)
    (case cLi => k_is)
    (case kLi => k_is)
    (case aRo => k_is)
    (case lRo => k_is)
    (case cRo => k_is)
    (case kRo => k_is)
    (case aUn => k_is)
    (case lUn => k_is)
    (case cUn => k_is)
    (case kUn => k_is)
    (case aLo => k_is)
    (case lLo => k_is)
    (case cLo => k_is)
    (case kLo => k_is)
    (case aIo => k_is)
    (case lIo => k_is)
    (case cIo => k_is)
    (case kIo => k_is)
    (case aNi => k_is)
    (case lNi => k_is)
    (case cNi => k_is)
    (case kNi => k_is)
    (case aAr => k_is)
    (case lAr => k_is)
    (case cAr => k_is)
    (case kAr => k_is)
    (case aIt => k_is)
    (case lIt => k_is)
    (case cIt => k_is)
    (case kIt => k_is)
    (case aTi => k_is)
    (case lTi => k_is)
    (case cTi => k_is)
    (case kTi => k_is)
    (case aTt => k_is)
    (case lTt => k_is)
    (case cTt => k_is)
    (case kTt => k_is)
    (case aTu => k_is)
    (case lTu => k_is)
    (case cTu => k_is)
    (case kTu => k_is)
    (case aSp => k_is)
    (case lSp => k_is)
    (case cSp => k_is)
    (case kSp => k_is)
    (case aWd => k_is)
    (case lWd => k_is)
    (case cWd => k_is)
    (case kWd => k_is)
    (case aPk => k_is)
    (case lPk => k_is)
    (case cPk => k_is)
    (case kPk => k_is)
    (case aDn => k_is)
    (case lDn => k_is)
    (case cDn => k_is)
    (case kDn => k_is)
    (case aLx => k_is)
    (case lLx => k_is)
    (case cLx => k_is)
    (case kLx => k_is)
    (case aLn => k_is)
    (case lLn => k_is)
    (case cLn => k_is)
    (case kLn => k_is)
    (case aLl => k_is)
    (case lLl => k_is)
    (case cLl => k_is)
    (case kLl => k_is)
    (case aBe => k_is)
    (case lBe => k_is)
    (case cBe => k_is)
    (case kBe => k_is)
    (case aLr => k_is)
    (case lLr => k_is)
    (case cLr => k_is)
    (case kLr => k_is)
    (case aLa => k_is)
    (case lLa => k_is)
    (case cLa => k_is)
    (case kLa => k_is)
    (case aCS => k_is)
    (case bCS => k_is)
    (case dCS => k_is)
    (case tCS => k_is)
    (case aCE => k_is)
    (case xCE => k_is)
    (case vCE => first | rfl | decide +kernel)
    (case saCE => k_is)
    (case gaCE => k_is)
    (case ggCE => k_is)
    (case noCE => k_is)
    (case keCE => k_is)
    (case exCE => k_is)
    (case tyCE => k_is)
    (case hdCE => k_is)
    (case ciCE => k_is)
    (case haCE => k_is)
    (case hmCE => k_is)
    (case suCE => k_is)
    (case kiCE => kit_is)
    (case afEI => k_is)
    (case tfEI => k_is)
    (case lfEI => k_is)
    (case cfEI => k_is)
    (case hn => k_is)
    (case ht => k_is)
    (case aCT => k_is)
    (case xCT => k_is)
    (case vCT => first | rfl | decide +kernel)
    (case sa_CT => k_is)
    (case ga_CT => k_is)
    (case gg_CT => k_is)
    (case nl_CT => k_is)
    (case ni_CT => k_is)
    (case ke_CT => k_is)
    (case ex_CT => k_is)
    (case ty_CT => k_is)
    (case hd_CT => k_is)
    (case su_CT => k_is)
    (case afTI => k_is)
    (case tfTI => k_is)
    (case lfTI => k_is)
    (case cfTI => k_is)
    (case aWC => k_is)
    (case aWI => k_is)
    (case iWI => k_is)
    (case lWI => k_is)
    (case cWI => k_is)
    (case kWI => k_is)
    (case aWE => k_is)
    (case iWE => k_is)
    (case lWE => k_is)
    (case cWE => k_is)
    (case kWE => k_is)
    (case aWS => k_is)
    (case iWS => k_is)
    (case lWS => k_is)
    (case cWS => k_is)
    (case kWS => k_is)
    (case rdRM => k_is)
    (case gaRM => k_is)
    (case fcRM => k_is)
    (case rcRM => k_is)
    (case lRM => k_is)
    (case cRM => k_is)
    (case kRM => k_is)
    (case pgWC => k_is)
    (case hdWC => k_is)
    (case poWC => k_is)
    (case saWC => k_is)
    (case mkWC => k_is)
    (case kcWC => k_is)
    (case nWC_turns => k_is)
    (case nWC_many => k_is)
    (case nWC_ties => k_is)
    (case thWC => k_is)
    (case tmWC => k_is)
    (case neWC => k_is)
    (case zM1 => k_is)
    (case zM2 => k_is)
    (case z_int => k_is)
    (case z_bool => k_is)
    (case z_list => k_is)
    (case z_tuple => k_is)
    (case z_str => k_is)
    (case z_isinstance => k_is)
    (case z_all => k_is)
    (case z_len => k_is)
    (case z_abs => k_is)
    (case z_range => k_is)
    (case z_set => k_is)
    (case z_sorted => k_is)
    (case z_enumerate => k_is)
    (case tkWC => kit_is)
    (case y0WC => kit_is)
    (case y1WC => kit_is)
    (case y2WC => kit_is)
    (case y3WC => kit_is)
    (case y4WC => kit_is)
    (case y5WC => kit_is)
    (case y6WC => kit_is)
