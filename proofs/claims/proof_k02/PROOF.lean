import PyProof.Rows.All
import Wide.All
import OpenK.AllK
import Wide.FinOn
import HandS.ForMost
import HandS.SetFor
import HandS.IsInst
import HandS.Zip
import HandS.Wide
import HandS.Walk
import KE.SortData
import KE.LtData
import PyProof.ReprRoads
import HandS.Deep
import HandS.Iter
import PySem.Challenge.RW_elsetold_k02_neighbours
import KE.KDictSum
import HandS.Conv
set_option Elab.async false
set_option linter.all false
set_option maxRecDepth 100000
set_option maxHeartbeats 4000000
/-! Sets whose members are ints and texts: made of a list or a tuple, sorted; sorted lists of alike data. -/
namespace Cry
open PySem PySem.Spec PyProof.Rows L2

/-- the key that a value is -/
def keyV (v : Value) : Key :=
  match v with
  | .int k _ => Sum.inl k
  | .str x _ => Sum.inr x
  | _ => Sum.inl 0
theorem keyV_of {k : Key} {v : Value} (h : keyIs k v = true) : keyV v = k := by
  rcases keyIs_shape h with ⟨i, t, rfl, rfl⟩ | ⟨x, t, rfl, rfl⟩ <;> rfl
theorem keyScan {k : Key} {v : Value} (h : keyIs k v = true) : v.scannable = true := by
  rcases keyIs_shape h with ⟨i, t, rfl, rfl⟩ | ⟨x, t, rfl, rfl⟩ <;> rfl
def Ent (w : World) (e : Int × Value) : Prop := ∃ k, keyIs k e.2 = true ∧ e.1 = keyH w k
/-- the set at a holds just the keys ks; it can be walked -/
def KSet (w : World) (h : Heap) (a : Addr) (ks : List Key) : Prop :=
  ∃ o es ep t, h.get? a = some o ∧ o.ExactSet ∧ o.data = .set es ep t ∧ (∀ e ∈ es.toList, Ent w e) ∧
    (es.toList.map fun e => keyV e.2).Perm ks ∧ ks.Nodup ∧ es.size < scanBound ∧ t.fits es.size = true ∧ Ris t.place.toList ∧
    (w.params.followText "set-order" = true ∨ t.led = true)
/-- whether a key is among some; one key more -/
def hasK (k : Key) (ks : List Key) : Bool := ks.any fun j => decide (j = k)
def moreK (k : Key) (ks : List Key) : List Key := if hasK k ks = true then ks else ks ++ [k]
theorem hasK_iff {k : Key} {ks : List Key} : hasK k ks = true ↔ k ∈ ks := by
  unfold hasK
  rw [List.any_eq_true]
  constructor
  · rintro ⟨j, hj, e⟩
    rw [← of_decide_eq_true e]
    exact hj
  · intro h
    exact ⟨k, h, decide_eq_true rfl⟩
section
variable {P : Program} {w : World} {A : Around} {E : Value → Shared → Prop} {s : Shared} {a : Addr} {ks : List Key}
theorem KSet.at {h h' : Heap} (R : KSet w h a ks) (k : ∀ o, h.get? a = some o → h'.get? a = some o) : KSet w h' a ks := by
  obtain ⟨o, es, ep, t, ho, r⟩ := R
  exact ⟨o, es, ep, t, k o ho, r⟩
theorem ent_elems {l : List (Int × Value)} (g : ∀ e ∈ l, Ent w e) : ElemsOf (mixKind P w) l := fun e he => by
  obtain ⟨k, h1, h2⟩ := g e he
  exact ⟨⟨k, h1, h2⟩, keyScan h1⟩
theorem ent_key {e : Int × Value} (g : Ent w e) (k : Key) : keyIs k e.2 = true ↔ keyV e.2 = k := by
  obtain ⟨k0, h1, _⟩ := g
  constructor
  · exact keyV_of
  · intro z
    rw [keyV_of h1] at z
    rw [← z]
    exact h1
theorem kset_tail {g : Bool → Sem Unit} (hg : ∀ (b : Bool) (s1 : Shared) (Q' : Unit → Shared → Prop), Q' () s1 → wpAny (model P w) A (g b) Q' E s1)
    {o : Obj} {es : Array (Int × Value)} {ep : Nat} {t : SetTable} (ho : s.heap.get? a = some o) (hex : o.ExactSet) (hd : o.data = .set es ep t)
    {es1 : Array (Int × Value)} {t2 : SetTable} {ks' : List Key} (g1 : ∀ e ∈ es1.toList, Ent w e) (p1 : (es1.toList.map fun e => keyV e.2).Perm ks') (nd : ks'.Nodup)
    (hb1 : es1.size < scanBound) (hf2 : t2.fits es1.size = true) (hr : Ris t2.place.toList) (hl : w.params.followText "set-order" = true ∨ t2.led = true) {wd : Bool} {R : Option Bool → Shared → Prop}
    (hR : ∀ h', Heap.SameBut a s.heap h' → KSet w h' a ks' → R (some true) { s with heap := h' }) :
    wpAny (model P w) A (do
        storeSet a es1 t2
        if (!wd && t2.tooFull) = true then do
            g (relayAll t2 es1 (SetTable.grown es1.size)).2.2
            storeSet a (relayAll t2 es1 (SetTable.grown es1.size)).1 (relayAll t2 es1 (SetTable.grown es1.size)).2.1
            pure (some true)
          else pure (some true)) R E s := by
  have st1 := store_at (es' := es1) (t' := t2) ho hd
  have sb := Heap.SameBut.update s.heap a (Obj.putSet es1 t2)
  refine wpAny_bind (wpAny_storeSet_of ho hd ?_ (fits_of_scanBound hb1))
  split
  · obtain ⟨pm, ff, rr, ll⟩ : (relayAll t2 es1 (SetTable.grown es1.size)).1.toList.Perm es1.toList ∧ (relayAll t2 es1 (SetTable.grown es1.size)).2.1.fits (relayAll t2 es1 (SetTable.grown es1.size)).1.size = true ∧
        Ris (relayAll t2 es1 (SetTable.grown es1.size)).2.1.place.toList ∧ (relayAll t2 es1 (SetTable.grown es1.size)).2.1.led = t2.led :=
      ⟨relayAll_perm _ _ _, relayAll_fits _ _ _, relayAll_ris _ _ _, relayAll_led _ _ _⟩
    revert pm ff rr ll
    generalize relayAll t2 es1 (SetTable.grown es1.size) = Z
    obtain ⟨es2, t3, gv⟩ := Z
    intro pm ff rr ll
    dsimp only at pm ff rr ll ⊢
    have sz : es2.size = es1.size := by
      have := pm.length_eq
      simpa using this
    refine wpAny_bind (hg _ _ _ ?_)
    refine wpAny_bind (wpAny_storeSet_of st1 rfl ?_ (fits_of_scanBound (by rw [sz]; exact hb1)))
    have st2 := store_at (es' := es2) (t' := t3) st1 rfl
    refine wpAny_pure (hR _ (sb.trans (Heap.SameBut.update _ a _)) ?_)
    exact ⟨_, es2, _, t3, st2, hex, rfl, fun e he => g1 e (pm.mem_iff.mp he), (pm.map _).trans p1, nd, by rw [sz]; exact hb1, ff, rr, hl.imp id fun z => by rw [ll]; exact z⟩
  · exact wpAny_pure (hR _ sb ⟨_, es1, _, t2, st1, hex, rfl, g1, p1, nd, hb1, hf2, hr, hl⟩)
theorem kset_add {k : Key} {v : Value} {Q : Bool → Shared → Prop} (hk : keyIs k v = true) (R : KSet w s.heap a ks) (room : ks.length + 1 < scanBound)
    (hQ : ∀ h', Heap.SameBut a s.heap h' → KSet w h' a (moreK k ks) → Q (!hasK k ks) { s with heap := h' }) :
    wpAny (model P w) A (setAddHashed a v (keyH w k)) Q E s := by
  obtain ⟨o, es, ep, t, ho, hex, hd, g, pk, nd, hb, hf, hr, hl⟩ := R
  have el : ElemsOf (mixKind P w) es.toList := ent_elems g
  have sc := keyScan hk
  have hk' : (mixKind P w).is k v = true := hk
  have mem : k ∈ ks ↔ ∃ e ∈ es.toList, keyIs k e.2 = true := by
    rw [← pk.mem_iff, List.mem_map]
    exact ⟨fun ⟨e, he, z⟩ => ⟨e, he, (ent_key (g e he) k).2 z⟩, fun ⟨e, he, z⟩ => ⟨e, he, (ent_key (g e he) k).1 z⟩⟩
  unfold setAddHashed setAddHashedIn
  refine wpAny_holding (wpAny_bind (wpAny_setState_of ho hd hf ?_))
  dsimp only
  rw [byScan_of sc hb el]
  simp only [↓reduceIte]
  unfold setAddByScan
  refine wpAny_bind ?_
  refine wpAny_bind (wpAny_rule ?_)
  refine wpAny_bind (wpAny_setScan_of (knd := mixKind P w) hk' ho hd hf el ?_)
  cases fi : List.findIdx? (fun e => (mixKind P w).is k e.2) es.toList with
  | some j =>
    dsimp only
    obtain ⟨hj, pj, _⟩ := List.findIdx?_eq_some_iff_getElem.mp fi
    have m : hasK k ks = true := hasK_iff.2 (mem.2 ⟨es.toList[j], List.getElem_mem hj, pj⟩)
    refine wpAny_pure (wpAny_pure ?_)
    have q := hQ s.heap (Heap.SameBut.refl a s.heap) (by unfold moreK; rw [if_pos m]; exact ⟨o, es, ep, t, ho, hex, hd, g, pk, nd, hb, hf, hr, hl⟩)
    rw [m] at q
    exact q
  | none =>
    dsimp only
    have m : ¬ k ∈ ks := fun z => by
      obtain ⟨e, he, c⟩ := mem.1 z
      have d := List.findIdx?_eq_none_iff.mp fi e he
      exact absurd (c.symm.trans d) (by decide)
    have gw : ∀ (b : Bool) {s1 : Shared} {Q' : Unit → Shared → Prop}, Q' () s1 → wpAny (model P w) A (match b with | true => rule "set.scan.the-table-gave-way" | false => pure ()) Q' E s1 :=
      fun b s1 Q' q => by cases b <;> first | exact wpAny_pure q | exact wpAny_rule q
    obtain ⟨pm, f1, r1, l1⟩ : (layNew t es ((mixKind P w).hash k) v).1.toList.Perm (es.push ((mixKind P w).hash k, v)).toList ∧ (layNew t es ((mixKind P w).hash k) v).2.1.fits (layNew t es ((mixKind P w).hash k) v).1.size = true ∧
        Ris (layNew t es ((mixKind P w).hash k) v).2.1.place.toList ∧ (layNew t es ((mixKind P w).hash k) v).2.1.led = t.led :=
      ⟨layNew_perm _ _ _ _, layNew_fits _ _ _ _, layNew_ris _ _ _ _ hr, layNew_led _ _ _ _⟩
    revert pm f1 r1 l1
    show _ → _ → _ → _ → wpAny (model P w) A _ _ E s
    have eh : (mixKind P w).hash k = keyH w k := rfl
    rw [eh]
    generalize layNew t es (keyH w k) v = Z
    obtain ⟨es1, t1, wd, gv⟩ := Z
    intro pm f1 r1 l1
    dsimp only at pm f1 r1 l1 ⊢
    rw [Array.toList_push] at pm
    have g1 : ∀ e ∈ es1.toList, Ent w e := fun e he => by
      rcases List.mem_append.mp (pm.mem_iff.mp he) with z | z
      · exact g e z
      · rw [List.mem_singleton.mp z]
        exact ⟨k, hk, rfl⟩
    have p1 : (es1.toList.map fun e => keyV e.2).Perm (ks ++ [k]) := by
      have q := pm.map (fun e : Int × Value => keyV e.2)
      rw [List.map_append] at q
      refine q.trans ?_
      show ((es.toList.map fun e => keyV e.2) ++ [keyV v]).Perm _
      rw [keyV_of hk]
      exact pk.append_right _
    have nd1 : (ks ++ [k]).Nodup := by
      rw [List.nodup_append]
      refine ⟨nd, by simp, fun x hx y hy e => ?_⟩
      rw [List.mem_singleton.mp hy] at e
      exact m (e ▸ hx)
    have sz : es1.size = ks.length + 1 := by
      have := p1.length_eq
      simpa using this
    have hb1 : es1.size < scanBound := by rw [sz]; exact room
    have led1 : w.params.followText "set-order" = true ∨ t1.led = true := hl.imp id fun z => by rw [l1]; exact z
    have fin : ∀ h', Heap.SameBut a s.heap h' → KSet w h' a (ks ++ [k]) → Q true { s with heap := h' } := fun h' sb r => by
      have mf : hasK k ks = false := by
        cases z : hasK k ks with
        | false => rfl
        | true => exact absurd (hasK_iff.1 z) m
      have q := hQ h' sb (by unfold moreK; rw [mf]; exact r)
      rw [mf] at q
      exact q
    refine wpAny_bind (gw _ ?_)
    split
    · refine wpAny_bind ?_
      rw [hashByValue_scannable 8 sc]
      refine wpAny_pure ?_
      refine kset_tail ?_ ho hex hd g1 p1 nd1 hb1 ?_ ?_ ?_ ?_
      · intro b s1 Q' q; cases b <;> first | exact wpAny_pure q | exact wpAny_rule q
      · first | (split <;> first | exact f1 | exact SetTable.fits_plain_off f1) | exact f1
      · first | (split <;> exact r1) | exact r1
      · first | (split <;> exact led1) | exact led1
      · intro h' sb r; dsimp only; exact wpAny_pure (fin h' sb r)
    · refine wpAny_bind (wpAny_pure ?_)
      simp only [↓reduceIte]
      refine kset_tail ?_ ho hex hd g1 p1 nd1 hb1 f1 r1 led1 ?_
      · intro b s1 Q' q; cases b <;> first | exact wpAny_pure q | exact wpAny_rule q
      · intro h' sb r; dsimp only; exact wpAny_pure (fin h' sb r)
end

/-! ### set(xs) of a list or a tuple of ints and texts -/
def dedK (ks : List Key) : List Key := ks.foldl (fun acc k => moreK k acc) []
theorem dedK_snoc (ks : List Key) (k : Key) : dedK (ks ++ [k]) = moreK k (dedK ks) := by
  unfold dedK
  rw [List.foldl_append]
  rfl
theorem moreK_len (k : Key) (ks : List Key) : (moreK k ks).length ≤ ks.length + 1 := by
  unfold moreK
  split
  · omega
  · simp
theorem foldK_len : ∀ (l acc : List Key), (l.foldl (fun acc k => moreK k acc) acc).length ≤ acc.length + l.length
  | [], acc => by simp
  | k :: l, acc => by
    have ih := foldK_len l (moreK k acc)
    have m := moreK_len k acc
    rw [List.foldl_cons, List.length_cons]
    omega
theorem dedK_len (ks : List Key) : (dedK ks).length ≤ ks.length := by
  have := foldK_len ks []
  simpa [dedK] using this
theorem moreK_mem {j k : Key} {ks : List Key} : j ∈ moreK k ks ↔ j ∈ ks ∨ j = k := by
  unfold moreK
  split
  · rename_i h
    have := hasK_iff.1 h
    constructor
    · exact .inl
    · rintro (z | z)
      · exact z
      · rw [z]; exact this
  · simp
theorem foldK_mem {j : Key} : ∀ (l acc : List Key), j ∈ l.foldl (fun acc k => moreK k acc) acc ↔ j ∈ acc ∨ j ∈ l
  | [], acc => by simp
  | k :: l, acc => by
    rw [List.foldl_cons, foldK_mem l, moreK_mem, List.mem_cons, or_assoc]
theorem dedK_mem {j : Key} {ks : List Key} : j ∈ dedK ks ↔ j ∈ ks := by
  unfold dedK
  rw [foldK_mem]
  simp
theorem moreK_nodup {k : Key} {ks : List Key} (h : ks.Nodup) : (moreK k ks).Nodup := by
  unfold moreK
  split
  · exact h
  · rename_i hn
    rw [List.nodup_append]
    refine ⟨h, by simp, fun x hx y hy e => ?_⟩
    rw [List.mem_singleton.mp hy] at e
    exact hn (hasK_iff.2 (e ▸ hx))
theorem dedK_nodup (ks : List Key) : (dedK ks).Nodup := by
  unfold dedK
  suffices h : ∀ (l acc : List Key), acc.Nodup → (l.foldl (fun acc k => moreK k acc) acc).Nodup from h ks [] List.nodup_nil
  intro l
  induction l with
  | nil => exact fun acc h => h
  | cons k l ih => exact fun acc h => ih _ (moreK_nodup h)
/-- nothing comes twice: all of them -/
theorem dedK_same : ∀ {ks : List Key}, ks.Nodup → dedK ks = ks := by
  intro ks h
  suffices g : ∀ (l acc : List Key), (acc ++ l).Nodup → l.foldl (fun acc k => moreK k acc) acc = acc ++ l by
    have := g ks [] (by simpa using h)
    simpa [dedK] using this
  intro l
  induction l with
  | nil => intro acc _; simp
  | cons k l ih =>
    intro acc hn
    rw [List.foldl_cons]
    have hk : hasK k acc = false := by
      cases z : hasK k acc with
      | false => rfl
      | true =>
        exfalso
        rw [List.nodup_append] at hn
        exact hn.2.2 k (hasK_iff.1 z) k List.mem_cons_self rfl
    have e : moreK k acc = acc ++ [k] := by unfold moreK; rw [hk]; rfl
    rw [e, ih]
    · simp
    · simpa using hn
abbrev freshSet (w : World) : Obj := { cls := .type "set", dict := none, data := .set #[] 0 (.fresh 0 0 (!w.params.followText "set-order")) }
theorem kset_fresh {w : World} {h : Heap} {a : Addr} (ho : h.get? a = some (freshSet w)) : KSet w h a [] :=
  ⟨_, #[], 0, _, ho, ⟨rfl, rfl, rfl⟩, rfl, (fun e he => by simp at he), (by simp), List.nodup_nil, (by decide), (by rfl), List.Pairwise.nil, by
    show _ ∨ (!w.params.followText "set-order") = true
    cases w.params.followText "set-order"
    · exact .inr rfl
    · exact .inl rfl⟩
/-- the values stand for the keys -/
abbrev KeysAre : List Key → List Value → Prop := Paired fun k v => keyIs k v = true
theorem KeysAre.at : ∀ {ks : List Key} {us : List Value} (i : Nat) (v : Value), KeysAre ks us → us[i]? = some v → ∃ k, ks[i]? = some k ∧ keyIs k v = true
  | _, _, i, v, .nil, e => by simp at e
  | _, _, 0, v, .cons r _, e => by
    simp at e
    subst e
    exact ⟨_, rfl, r⟩
  | _, _, i + 1, v, .cons _ t, e => by
    obtain ⟨k, h1, h2⟩ := KeysAre.at i v t (by simpa using e)
    exact ⟨k, by simpa using h1, h2⟩
section
variable {P : Program} {w : World} {A : Around} {E : Value → Shared → Prop} {s : Shared}
theorem kset_update {I : Addr} {fp wr : List Addr} {G : Array GenState → Array GenState → Prop} {n : Nat} {Pv : Nat → Value → Prop} {St : Nat → Shared → Prop} {R : Result → Shared → Prop}
    (W : WalksS P w A.in1 I fp wr G n Pv St) (S : Addr) (hSf : S ∉ fp) (ks : List Key) (hn : n = ks.length) (hb : ks.length + 1 < scanBound) (hval : ∀ i v, Pv i v → ∃ k, ks[i]? = some k ∧ keyIs k v = true) :
    ∀ (m i : Nat) (s : Shared), n - i = m → i ≤ n → St i s → KSet w s.heap S (dedK (ks.take i)) →
      (∀ s', Moved (S :: wr) G s s' → KSet w s'.heap S (dedK ks) → R (.ok (.ret .none)) s') →
      codeAny (model P w) A (.builtin "set.update.loop" ⟨[.ref S, .ref I], []⟩) R s := by
  have nw : S ∉ wr := fun h => hSf (W.sub _ h)
  have up : ∀ b ∈ wr, b ∈ S :: wr := fun b hb => List.mem_cons_of_mem _ hb
  intro m
  induction m with
  | zero =>
    intro i s em hi st hS hR
    obtain rfl : i = n := by omega
    refine codeAny_builtin F.entry_set_update_loop ?_
    rw [Around.under_plainId F.plain_set_update_loop _]
    show wpAny _ A.in1 (pyNext (.ref I) >>= _) _ _ s
    refine wpAny_bind (W.done s _ _ st fun s' mv => ?_)
    show wpAny _ A.in1 (ret Value.none) _ _ s'
    rw [List.take_of_length_le (by omega)] at hS
    exact wpAny_pure (hR s' (mv.mono up) (hS.at fun o e => mv.heap S o nw e))
  | succ m ih =>
    intro i s em hi st hS hR
    have lt : i < n := by omega
    refine codeAny_builtin F.entry_set_update_loop ?_
    rw [Around.under_plainId F.plain_set_update_loop _]
    show wpAny _ A.in1 (pyNext (.ref I) >>= _) _ _ s
    refine wpAny_bind (W.item i s _ _ lt st fun v s' hP st' mv => ?_)
    obtain ⟨k, ek, hk⟩ := hval i v hP
    have hS1 : KSet w s'.heap S (dedK (ks.take i)) := hS.at fun o e => mv.heap S o nw e
    show wpAny _ A.in1 (holding [v] (setAdd S v) >>= _) _ _ s'
    refine wpAny_bind (wpAny_holding ?_)
    unfold setAdd
    refine wpAny_holding ?_
    refine wpAny_bind ((mixKind P w).pyHash (k := k) hk ?_)
    have ln : (dedK (ks.take i)).length ≤ i := Nat.le_trans (dedK_len _) (by rw [List.length_take]; omega)
    refine kset_add (s := { s' with toks := s'.toks + 1 }) hk hS1 (by omega) fun h' sb hS2 => ?_
    have e2 : moreK k (dedK (ks.take i)) = dedK (ks.take (i + 1)) := by
      rw [List.take_add_one, ek]
      exact (dedK_snoc _ _).symm
    rw [e2] at hS2
    refine wpAny_pure ⟨plainId_quiet F.plain_set_update_loop _, ih (i + 1) _ (by omega) lt (W.frame _ s' _ _ st' (Nat.le_succ _) fun b hb o e => ?_) hS2 fun s2 mv2 hS3 => ?_⟩
    · rw [sb.2 b (fun z : b = S => hSf (z ▸ hb))]
      exact e
    · refine hR s2 (Moved.trans W.gtrans ((mv.mono up).then_heap (Nat.le_succ _) fun b o hb e => ?_) mv2) hS3
      rw [sb.2 b (fun z : b = S => hb (z ▸ List.mem_cons_self))]
      exact e

set_option maxHeartbeats 3200000 in
theorem call_set_list {l : Addr} {items : Array Value} {ks : List Key} {Q : Value → Shared → Prop} (hh : A.handled = none) (hl : s.heap.IsList l items) (hk : KeysAre ks items.toList) (hb : ks.length + 1 < scanBound)
    (h : ∀ (h' : Heap) (tk : Nat), KSet w h' s.heap.objs.size (dedK ks) → (∀ b o, s.heap.get? b = some o → h'.get? b = some o) → Q (.ref s.heap.objs.size) { s with heap := h', toks := tk }) :
    wpAny (model P w) A (call (.type "set") [.ref l]) Q E s := by
  have hsz : items.size = ks.length := by
    rw [← Array.length_toList]
    exact (Paired.length hk).symm
  obtain ⟨c, tl, hmro⟩ := F.called_set.mro
  have hmade := F.called_set.made
  have hsub := F.called_set.sub
  refine wpAny_call (codeAny_of_tree ?_)
  show wpAny _ _ (callAny (.type "set") _) _ _ _
  refine wpAny_pure ⟨Code.quiet_builtin _ (by decide +kernel), codeAny_builtin F.entry_type_call ?_⟩
  rw [Around.under_plain (weight_type_call_type "set" [.ref l] []) rfl]
  have h1 := F.called_set.notType
  have h2 := F.called_set.canCreate
  have hct := F.typeCall_set_1 (.ref l)
  repeat (any_goals (first | assumption | wp_step))
  refine codeAny_mono (code_set_led1 (.ref l) (E := E) (Q₁ := fun ob s1 => ob = .ref s.heap.objs.size ∧ s1 = { s with heap := s.heap.push (freshSet w) }) ⟨rfl, rfl⟩) fun r s1 hr => ?_
  cases r with
  | error e => exact hr
  | ok fl =>
    cases fl with
    | ret ob =>
      obtain ⟨rfl, rfl⟩ := hr
      have hS : (s.heap.push (freshSet w)).get? s.heap.objs.size = some (freshSet w) := Heap.get?_push_size _ rfl
      have hT : Shared.TypeIs { s with heap := s.heap.push (freshSet w) } (.ref s.heap.objs.size) "set" := ⟨_, hS, rfl⟩
      have hli := F.called_set.init.lookup
      have hbi := F.called_set.init.bind (.ref s.heap.objs.size)
      repeat (any_goals (first | assumption | wp_step))
      refine codeAny_mono (codeAny_call_builtin (R := wants (fun r s2 => r = .none ∧ ∃ h' tk, s2 = { s with heap := h', toks := tk } ∧ KSet w h' s.heap.objs.size (dedK ks) ∧
          (∀ b o, s.heap.get? b = some o → h'.get? b = some o)) E) F.called_set.init.plain F.entry_set_init (check_set_init_1 hT ?_)) fun r2 s2 hr2 => ?_
      · obtain ⟨ol, hol, hcl, nl, hdl⟩ := hl
        obtain ⟨ocls, odict, odata, oslots⟩ := ol
        simp only at hcl hdl
        subst hcl; subst hdl
        have hol' : (s.heap.push (freshSet w)).get? l = some { cls := .type "list", dict := odict, data := .seq items nl, slots := oslots } := Heap.get?_push_of_some _ hol
        have hsls := F.sub_list_set
        have hslf := F.sub_list_frozenset
        have hne : (Value.type "list" == Value.type "dict") = false := by decide
        have hl1 : (s.heap.push (freshSet w)).IsList l items := ⟨_, hol', rfl, nl, rfl⟩
        unfold Builtin.«set.__init__» noKeywords Builtin.Frozenset.updateFrom
        generalize hPI : pyIter = PI
        wp_walk
        subst hPI
        refine wpAny_pyIter_list hl1 ?_
        refine wpAny_bind (wpAny_runValue ?_)
        have lS : l < s.heap.objs.size := Heap.lt_size hol
        have hh3 : A.in1.in1.in1.handled = none := by simp [hh]
        have nI : l ≠ (s.heap.push (freshSet w)).objs.size := by
          rw [Heap.size_push]
          exact Nat.ne_of_lt (Nat.lt_succ_of_lt lS)
        have sF : s.heap.objs.size ∉ [(s.heap.push (freshSet w)).objs.size, l] := by
          rw [Heap.size_push]
          simp only [List.mem_cons, List.mem_singleton, List.not_mem_nil, or_false, not_or]
          exact ⟨Nat.ne_of_lt (Nat.lt_succ_self _), Nat.ne_of_gt lS⟩
        refine kset_update ((Walks.list hh3 _ l nI items).toS) s.heap.objs.size sF ks hsz hb (fun i v hv => KeysAre.at i v hk (by rw [Array.getElem?_toList]; exact hv)) (items.size - 0) 0 _ (by omega) (Nat.zero_le _)
          ⟨⟨_, Heap.get?_push_size _ rfl, rfl, rfl⟩, (hl1.push _)⟩ ?z0 ?zR
        case z0 =>
          rw [List.take_zero]
          exact kset_fresh (Heap.get?_push_of_some _ hS)
        case zR =>
          intro s' mv hS'
          obtain ⟨h', g2, d', tk', os'⟩ := s'
          have eg : g2 = s.gens := mv.gens
          have ed : d' = s.drawn := mv.drawn
          have eo : os' = s.os := mv.os
          subst eg; subst ed; subst eo
          show wpAny _ _ _ _ _ _
          refine wpAny_pure ?_
          show wpAny _ _ (ret Value.none) _ _ _
          refine wpAny_pure ⟨rfl, h', tk', rfl, hS', fun b o e => ?_⟩
          have b0 : b < s.heap.objs.size := Heap.lt_size e
          refine mv.heap b o ?_ (Heap.get?_push_of_some _ (Heap.get?_push_of_some _ e))
          simp only [List.mem_cons, List.mem_singleton, List.not_mem_nil, or_false, not_or]
          refine ⟨Nat.ne_of_lt b0, ?_⟩
          rw [Heap.size_push]
          exact Nat.ne_of_lt (Nat.lt_succ_of_lt b0)
      · cases r2 with
        | error e => exact hr2
        | ok fl2 =>
          cases fl2 with
          | ret r =>
            obtain ⟨rfl, h', tk, rfl, hS', kp⟩ := hr2
            repeat (any_goals (first | assumption | wp_step))
            exact h _ _ hS' kp
          | _ => exact hr2.elim
    | _ => exact hr.elim

set_option maxHeartbeats 3200000 in
theorem call_set_tup {l : Addr} {items : Array Value} {ks : List Key} {Q : Value → Shared → Prop} (hh : A.handled = none) (hl : s.heap.IsTuple l items) (hk : KeysAre ks items.toList) (hb : ks.length + 1 < scanBound)
    (h : ∀ (h' : Heap) (tk : Nat), KSet w h' s.heap.objs.size (dedK ks) → (∀ b o, s.heap.get? b = some o → h'.get? b = some o) → Q (.ref s.heap.objs.size) { s with heap := h', toks := tk }) :
    wpAny (model P w) A (call (.type "set") [.ref l]) Q E s := by
  have hsz : items.size = ks.length := by
    rw [← Array.length_toList]
    exact (Paired.length hk).symm
  obtain ⟨c, tl, hmro⟩ := F.called_set.mro
  have hmade := F.called_set.made
  have hsub := F.called_set.sub
  refine wpAny_call (codeAny_of_tree ?_)
  show wpAny _ _ (callAny (.type "set") _) _ _ _
  refine wpAny_pure ⟨Code.quiet_builtin _ (by decide +kernel), codeAny_builtin F.entry_type_call ?_⟩
  rw [Around.under_plain (weight_type_call_type "set" [.ref l] []) rfl]
  have h1 := F.called_set.notType
  have h2 := F.called_set.canCreate
  have hct := F.typeCall_set_1 (.ref l)
  repeat (any_goals (first | assumption | wp_step))
  refine codeAny_mono (code_set_led1 (.ref l) (E := E) (Q₁ := fun ob s1 => ob = .ref s.heap.objs.size ∧ s1 = { s with heap := s.heap.push (freshSet w) }) ⟨rfl, rfl⟩) fun r s1 hr => ?_
  cases r with
  | error e => exact hr
  | ok fl =>
    cases fl with
    | ret ob =>
      obtain ⟨rfl, rfl⟩ := hr
      have hS : (s.heap.push (freshSet w)).get? s.heap.objs.size = some (freshSet w) := Heap.get?_push_size _ rfl
      have hT : Shared.TypeIs { s with heap := s.heap.push (freshSet w) } (.ref s.heap.objs.size) "set" := ⟨_, hS, rfl⟩
      have hli := F.called_set.init.lookup
      have hbi := F.called_set.init.bind (.ref s.heap.objs.size)
      repeat (any_goals (first | assumption | wp_step))
      refine codeAny_mono (codeAny_call_builtin (R := wants (fun r s2 => r = .none ∧ ∃ h' tk, s2 = { s with heap := h', toks := tk } ∧ KSet w h' s.heap.objs.size (dedK ks) ∧
          (∀ b o, s.heap.get? b = some o → h'.get? b = some o)) E) F.called_set.init.plain F.entry_set_init (check_set_init_1 hT ?_)) fun r2 s2 hr2 => ?_
      · obtain ⟨ol, hol, hcl, nl, hdl⟩ := hl
        obtain ⟨ocls, odict, odata, oslots⟩ := ol
        simp only at hcl hdl
        subst hcl; subst hdl
        have hol' : (s.heap.push (freshSet w)).get? l = some { cls := .type "tuple", dict := odict, data := .seq items nl, slots := oslots } := Heap.get?_push_of_some _ hol
        have hsls := F.sub_tuple_set
        have hslf := F.sub_tuple_frozenset
        have hne : (Value.type "tuple" == Value.type "dict") = false := by decide
        have hl1 : (s.heap.push (freshSet w)).IsTuple l items := ⟨_, hol', rfl, nl, rfl⟩
        unfold Builtin.«set.__init__» noKeywords Builtin.Frozenset.updateFrom
        generalize hPI : pyIter = PI
        wp_walk
        subst hPI
        refine wpAny_pyIter_tuple hl1 ?_
        refine wpAny_bind (wpAny_runValue ?_)
        have lS : l < s.heap.objs.size := Heap.lt_size hol
        have hh3 : A.in1.in1.in1.handled = none := by simp [hh]
        have nI : l ≠ (s.heap.push (freshSet w)).objs.size := by
          rw [Heap.size_push]
          exact Nat.ne_of_lt (Nat.lt_succ_of_lt lS)
        have sF : s.heap.objs.size ∉ [(s.heap.push (freshSet w)).objs.size, l] := by
          rw [Heap.size_push]
          simp only [List.mem_cons, List.mem_singleton, List.not_mem_nil, or_false, not_or]
          exact ⟨Nat.ne_of_lt (Nat.lt_succ_self _), Nat.ne_of_gt lS⟩
        refine kset_update ((Walks.tuple hh3 _ l nI items).toS) s.heap.objs.size sF ks hsz hb (fun i v hv => KeysAre.at i v hk (by rw [Array.getElem?_toList]; exact hv)) (items.size - 0) 0 _ (by omega) (Nat.zero_le _)
          ⟨⟨_, Heap.get?_push_size _ rfl, rfl, rfl⟩, (hl1.push _)⟩ ?z0 ?zR
        case z0 =>
          rw [List.take_zero]
          exact kset_fresh (Heap.get?_push_of_some _ hS)
        case zR =>
          intro s' mv hS'
          obtain ⟨h', g2, d', tk', os'⟩ := s'
          have eg : g2 = s.gens := mv.gens
          have ed : d' = s.drawn := mv.drawn
          have eo : os' = s.os := mv.os
          subst eg; subst ed; subst eo
          show wpAny _ _ _ _ _ _
          refine wpAny_pure ?_
          show wpAny _ _ (ret Value.none) _ _ _
          refine wpAny_pure ⟨rfl, h', tk', rfl, hS', fun b o e => ?_⟩
          have b0 : b < s.heap.objs.size := Heap.lt_size e
          refine mv.heap b o ?_ (Heap.get?_push_of_some _ (Heap.get?_push_of_some _ e))
          simp only [List.mem_cons, List.mem_singleton, List.not_mem_nil, or_false, not_or]
          refine ⟨Nat.ne_of_lt b0, ?_⟩
          rw [Heap.size_push]
          exact Nat.ne_of_lt (Nat.lt_succ_of_lt b0)
      · cases r2 with
        | error e => exact hr2
        | ok fl2 =>
          cases fl2 with
          | ret r =>
            obtain ⟨rfl, h', tk, rfl, hS', kp⟩ := hr2
            repeat (any_goals (first | assumption | wp_step))
            exact h _ _ hS' kp
          | _ => exact hr2.elim
    | _ => exact hr.elim
end
end Cry
/-! sorted of a set of keys; sorted of alike data; < and == of data; a list unpacked. -/
namespace Cry
open PySem PySem.Spec PyProof.Rows L2
section
variable {P : Program} {w : World} {A : Around} {E : Value → Shared → Prop} {s : Shared}

/-! ### sorted of such a set -/
def encK : Key → PyData
  | .inl i => .int i
  | .inr x => .str x
/-- all ints or all texts -/
def OneKind (ks : List Key) : Prop := (∀ k ∈ ks, ∃ i, k = Sum.inl i) ∨ ∀ k ∈ ks, ∃ x, k = Sum.inr x
theorem OneKind.perm {ks ls : List Key} (h : OneKind ks) (p : ls.Perm ks) : OneKind ls :=
  h.imp (fun z k hk => z k (p.mem_iff.mp hk)) fun z k hk => z k (p.mem_iff.mp hk)
theorem OneKind.alike {ks : List Key} (h : OneKind ks) : PySem.W.AllAlike (ks.map encK) := by
  intro d hd d' hd'
  obtain ⟨k, hk, rfl⟩ := List.mem_map.mp hd
  obtain ⟨k', hk', rfl⟩ := List.mem_map.mp hd'
  rcases h with h | h
  · obtain ⟨i, rfl⟩ := h k hk
    obtain ⟨j, rfl⟩ := h k' hk'
    rfl
  · obtain ⟨i, rfl⟩ := h k hk
    obtain ⟨j, rfl⟩ := h k' hk'
    rfl
theorem encK_sortable (ks : List Key) : PySem.W.Sortable (ks.map encK) := .inr fun d hd => by
  obtain ⟨k, _, rfl⟩ := List.mem_map.mp hd
  cases k <;> exact ⟨nofun, nofun⟩
theorem reads_key {h : Heap} {k : Key} {v : Value} (e : keyIs k v = true) : ∃ as, Reads h v (encK k) as := by
  rcases keyIs_shape e with ⟨i, t, rfl, rfl⟩ | ⟨x, t, rfl, rfl⟩
  · exact ⟨_, Reads.int i t⟩
  · exact ⟨_, Reads.str x t⟩
theorem sorted_kset {a : Addr} {ks : List Key} {Q : Value → Shared → Prop} (R : KSet w s.heap a ks) (hh : A.handled = none) (ok : OneKind ks) (hu : A.units + 8 < cLine)
    (hQ : ∀ s' p (out : List Value) (c : Nat) (ls : List Key), (∀ b o, s.heap.get? b = some o → s'.heap.get? b = some o) → s'.gens = s.gens → s'.os = s.os → s.heap.objs.size ≤ p →
      s'.heap.get? p = some (seqObj "list" out.toArray c) → KeysAre ls out → ls.Perm ks → ls.Pairwise (fun x y => PySem.W.dataLe false encK x y = true) → Q (.ref p) s') :
    wpAny (model P w) A (call (.builtin "sorted") [.ref a]) Q E s := by
  obtain ⟨o, es, ep, t, ho, hex, hd, g, pk, nd, hb, hf, hr, hl⟩ := R
  refine Calls.call_function_entry kind_sorted plain_sorted entry_sorted (args_sorted1 _) ?_
  unfold Builtin.«sorted»
  refine wpAny_bind (m := checkCount "sorted" 1 1 _) (wpAny_pure ?_)
  refine wpAny_bind (collect_set (A := A.in1) hh ⟨o, ho, hex.1, hd⟩ hf hb hr hl fun s1 vs k1 hz g1 o1 pm => ?_)
  have lv : vs.length = es.size := by
    rw [pm.length_eq, List.length_map, Array.length_toList]
  have lz : vs.length ≤ sizeLine := by rw [lv]; exact fits_of_scanBound hb
  have pv : (vs.map keyV).Perm ks := by
    have q := pm.map keyV
    rw [List.map_map] at q
    exact q.trans pk
  have each : PySem.W.EachIs (fun (v : Value) (k : Key) => keyIs k v = true) vs (vs.map keyV) := by
    have q := PySem.W.EachIs.of (R := fun (v : Value) (k : Key) => keyIs k v = true) (zs := vs.map fun v => (v, keyV v)) fun p hp => by
      obtain ⟨v, hv, rfl⟩ := List.mem_map.mp hp
      obtain ⟨e, he, rfl⟩ := List.mem_map.mp (pm.mem_iff.mp hv)
      obtain ⟨k, h1, _⟩ := g e he
      show keyIs (keyV e.2) e.2 = true
      rw [keyV_of h1]
      exact h1
    simpa [List.map_map, Function.comp_def] using q
  refine wpAny_bind (wpAny_newList ?_ lz)
  have hoL : (s1.heap.push (seqObj "list" vs.toArray 0)).get? s1.heap.objs.size = some (seqObj "list" vs.toArray 0) := Heap.get?_push_size _ rfl
  have okv : OneKind (vs.map keyV) := ok.perm pv
  refine wpAny_bind (wpAny_holding ?_)
  refine PySem.W.list_sort_data (s := { s1 with heap := s1.heap.push (seqObj "list" vs.toArray 0) }) (enc := encK) hoL each (each.mono fun v k e => ?_) okv.alike (encK_sortable _) (by rw [List.length_map]; exact lz) (fun k _ => ?_) fun out hlen hout => ?_
  · rcases keyIs_shape e with ⟨i, t, rfl, rfl⟩ | ⟨x, t, rfl, rfl⟩
    · exact ⟨_, Reads.int i t, by simp⟩
    · exact ⟨_, Reads.str x t, by simp⟩
  · have d0 : (encK k).depth = 0 := by cases k <;> rfl
    rw [d0]
    show A.units + 1 + 1 + 0 < cLine
    omega
  · obtain ⟨c, hc⟩ := sortedHeap_at (vs := vs) (out := out.toArray) hoL
    have pr : ((vs.map keyV).mergeSort (PySem.W.dataLe false encK)).Perm ks := (List.mergeSort_perm _ _).trans pv
    have kk : KeysAre ((vs.map keyV).mergeSort (PySem.W.dataLe false encK)) out := by
      generalize (vs.map keyV).mergeSort (PySem.W.dataLe false encK) = ls at hout
      clear pr hlen hc
      induction hout with
      | nil => exact .nil
      | cons r _ ih => exact .cons r ih
    refine wpAny_pure ⟨_, rfl, hQ { s1 with heap := sortedHeap (s1.heap.push (seqObj "list" vs.toArray 0)) s1.heap.objs.size vs out.toArray } s1.heap.objs.size out c _ (fun b u e => ?_) g1 o1 hz hc kk pr ?_⟩
    · have q := k1 b u e
      have lt := Heap.lt_size q
      show (sortedHeap (s1.heap.push (seqObj "list" vs.toArray 0)) s1.heap.objs.size vs out.toArray).get? b = some u
      rw [sortedHeap_old (Nat.ne_of_lt lt) (by rw [size_push']; exact Nat.lt_succ_of_lt lt)]
      exact Heap.get?_push_of_some _ q
    · exact PySem.W.sort_pairwise (PySem.W.sortLe_total _ _ _) _
end
end Cry
/-! The layer, further: defs that know that no repr is under way; repr, sorted, < of data; lists unpacked; sets of keys at the layer. -/
namespace Cry
open PySem PySem.Spec PyProof.Rows L2

/-! ### defs within which repr may be asked -/
structure FnG (P : Program) (w : World) (K : PySem.W.Frag) (mg : Str → Option Value) (base : Heap) (CX : CXT) (k : Nat) (f : Addr) (fd : FuncData) (ps : List Str) (sp : Sp) : Prop where
  len : ∀ vs H Q E, sp vs H Q E → vs.length = ps.length
  run : ∀ (A : Around) (outer : List Env) (s : Shared) (H : Hp) (args : Args) (us : List Value) (vs : List V) (Q : VK) (E : XK), A.guards = some [] → Room k A → Env0 P w K mg base A outer s H → BindsTo s fd args (ps.zip us) → Vals vs us → sp vs H Q E →
    codeAny (model P w) A (.call (.ref f) args) (CR CX outer P w H s Q E) s
theorem FnG.mono {P : Program} {w : World} {K : PySem.W.Frag} {mg : Str → Option Value} {base : Heap} {CX : CXT} {j k : Nat} {f : Addr} {fd : FuncData} {ps : List Str} {sp : Sp} (F : FnG P w K mg base CX j f fd ps sp) (h : j ≤ k) : FnG P w K mg base CX k f fd ps sp :=
  ⟨F.len, fun A outer s H args us vs Q E hg hr => F.run A outer s H args us vs Q E hg (hr.mono h)⟩
theorem deeper_guards (A : Around) (env : Env) : (A.deeper env).guards = A.guards := rfl
section
variable {P : Program} {w : World} {K : PySem.W.Frag} {mg : Str → Option Value} {base : Heap}
theorem okG {x qual : Str} {st : Stmt} {f : Addr} {fd : FuncData} {N ps : List Str} {k : Nat} {sp : Sp} (F : Fun K x qual st f fd) (S : FnScope N ps (defScope st)) (len : ∀ vs H Q E, sp vs H Q E → vs.length = ps.length)
    (body : ∀ (cdv : Value) (A : Around) (outer : List Env) (s : Shared) (H : Hp) (vs : List V) (Q : VK) (E : XK), A.guards = some [] → Room k (A.deeper (envOfC qual (defScope st) s.heap.objs.size f cdv)) → sp vs H Q E →
      ∃ t, PSs (cxOf CX0 P w K mg base N qual (defScope st) f cdv A outer s H E).nox (defBody st) t ∧ t { nx := fun _ H' => Q .non H', rt := Q } (start N vs) H) : FnG P w K mg base CX0 (k + 1) f fd ps sp := by
  obtain ⟨oc, od, kV, doc, pm, an, cdv, ct, osl, rfl, lk, hcd⟩ := F.ex
  refine ⟨len, fun A outer s H args us vs Q E hg hr e0 hb r hsp => ?_⟩
  have hl := len _ _ _ _ hsp
  have kin : K.In s.heap := e0.mod.kin.keeps fun b o e => (e0.bs b o e).1
  have nolim : s.heap.NoLimit := e0.mod.nolimit.keeps fun b o e => (e0.bs b o e).1
  have kinds : ∀ y ∈ ps.zip us, (defScope st).names.lookup y.1 = some .local ∨ ((defScope st).names.lookup y.1 = some .cell ∧ ((cellsFrom (s.heap.objs.size + 1) (defScope st).names []).lookup y.1).isSome = true) := by
    rintro ⟨n, v⟩ hy
    rcases S.par n (List.of_mem_zip hy).1 with q | q
    · exact .inl q
    · exact .inr ⟨q, PySem.W.cellsFrom_some _ _ _ (.inl q)⟩
  refine codeAny_call_function hr.depth (kin _ _ lk) rfl S.co S.gen rfl (PySem.W.codeRec_of kin hcd) (hb _ _ _ _ ?_)
  refine wpAny_newFunctionEnv_cells S.kind kinds fun env he s1 y => ?_
  subst he
  refine ⟨nolim.keeps y.toInCall.keep, codeAny_func ?_⟩
  obtain ⟨t, ht, hq⟩ := body cdv A outer s H vs Q E hg (hr.deeper _) hsp
  have J0 := inv_start (CX := CX0) (E := E) S hr.hd e0 hl r y
  refine wpAny_mono (ht.nox.run [] s1 (start N vs) H _ J0 hq) (fun fl s' z => ?_) fun e s' z => z
  cases fl with
  | ret u =>
    obtain ⟨v, σ', H', J, rv, q⟩ := z
    exact ⟨v, H', J.os, J.bare, J.base, J.hok, rv, q⟩
  | next =>
    obtain ⟨σ', H', J, q⟩ := z
    exact ⟨V.non, H', J.os, J.bare, J.base, J.hok, rfl, q⟩
  | brk =>
    obtain ⟨_, _, _, q⟩ := z
    exact False.elim q
  | cont =>
    obtain ⟨_, _, _, q⟩ := z
    exact False.elim q
end
/-! ### a call of such a def -/
section
variable {X : Cx} {CX : CXT} {k : Nat} {f : Addr} {fd : FuncData} {ps : List Str} {sp : Sp} {dvs : List V} {ds : List Value} {E : XK} {x : Str} {p pos : Pos} {e : Expr} {es : List Expr} {t : TA}
theorem runG {pins : List (Addr × Obj)} {σ : L2.St} {H : Hp} {s : Shared} {Q : VK} {us : List Value} {vs : List V} (F : FnG X.prog X.w X.K X.mg X.base CX k f fd ps sp) (hg : X.A.guards = some []) (hr : Room k X.A) (hb : Binds X.K fd ps ds) (hd : Vals dvs ds) (hx : Passes CX X E)
    (I : Inv X pins σ H s) (r : Vals vs us) (h : sp (vs ++ dvs) H Q E) : wpAny (model X.prog X.w) X.A (call (.ref f) us) (EP X pins σ Q) X.xe s := by
  have rr : Vals (vs ++ dvs) (us ++ ds) := r.append hd
  have hl : (us ++ ds).length = ps.length := by
    rw [← rr.length]
    exact F.len _ _ _ _ h
  refine wpAny_call (codeAny_mono (F.run X.A X.stack s H ⟨us, []⟩ (us ++ ds) (vs ++ dvs) Q E hg hr I.env0 (hb s us I.kIn hl) rr h) fun z s' hq => ?_)
  cases z with
  | error e => exact hx pins σ H s e s' I hq
  | ok fl =>
    cases fl with
    | ret u => exact I.after hq
    | next => exact False.elim hq
    | brk => exact False.elim hq
    | cont => exact False.elim hq
theorem pe_callG (F : FnG X.prog X.w X.K X.mg X.base CX k f fd ps sp) (hgd : X.A.guards = some []) (hr : Room k X.A) (hg : Gl X x) (hm : X.mg x = some (.ref f)) (hk : PySem.W.keepIn X.K (.ref f) = true) (hb : Binds X.K fd ps ds) (hd : Vals dvs ds) (hx : Passes CX X E)
    (ha : PA X (e :: es) t) (hdb : (x == ("__debug__" : Str)) = false := by decide) (he : starEach (e :: es) X.env = (false, eval e X.env) :: starEach es X.env := by rfl) (hpl : (backTo pos (starEach es X.env)).any (·.1) = false := by rfl) :
    PE X (.Call (.Name x p) (e :: es) [] pos) (tCall sp dvs E t) := by
  refine ⟨fun pins s σ H Q I h => ?_⟩
  refine wpAny_Call_Name_kw (ld_glob I hg hm ?_ hdb)
  refine PySem.W.callWith_K (h₀ := X.base) I.ok.mod.kin hk (thn (ha.run pos pins s σ H _ I h) fun us s1 ⟨vs, H1, I1, r, q⟩ => ⟨I1.kIn, ?_⟩) he hpl
  exact runG F hgd hr hb hd hx I1 r q
end

/-! ### the head: the law's promise at the heap behind the top -/
theorem law_callG {P : Program} {w : World} {K : PySem.W.Frag} {mg mb : Str → Option Value} {k : Nat} {fa a : Addr} {fd : FuncData} {x : Str} {sp : Sp} {s1 : Shared} {vs : List Value} {ns : List Int}
    (KX : K.In s1.heap) (hns : s1.heap.Ns mainGlobals mg) (hb : s1.heap.Ns builtinsNs mb) (hbb : ∀ x : Str, x ≠ "__name__" → mb x = bootBuiltins x) (hlim : s1.heap.NoLimit) (hg : s1.gens = #[])
    (ha : s1.heap.get? a = some { cls := .type "list", data := .seq vs.toArray }) (hi : IntsAre vs ns) (hl : ns.length ≤ sizeLine) (hr : Room k callerA)
    (F : ∀ base : Heap, K.In base → base.Ns mainGlobals mg → FnG P w K mg base CX0 k fa fd [x] sp) (hbind : ∀ (s : Shared) (u : Value), BindsTo s fd ⟨[u], []⟩ [(x, u)])
    (hsp : ∀ H : Hp, Only H → SqL K H a (ns.map V.int) → sp [.ref a] H (fun v _ => v = .bl true) fun _ _ _ => False) :
    codeAny (model P w) callerA (.call (.ref fa) ⟨[.ref a], []⟩) (fun r s' => r = .ok (.ret (.bool true)) ∧ OldK s1.heap s'.heap ∧ s'.os = s1.os ∧ AllBare s'.gens) s1 := by
  have rv := vals_ints hi
  have lv := hi.length
  have core : ∀ H : Hp, Only H → SqL K H a (ns.map V.int) → HOk P w H s1.heap → (∀ b, H b ≠ none → b = a) → (H a ≠ none → K.lookup a = none) →
      codeAny (model P w) callerA (.call (.ref fa) ⟨[.ref a], []⟩) (fun r s' => r = .ok (.ret (.bool true)) ∧ OldK s1.heap s'.heap ∧ s'.os = s1.os ∧ AllBare s'.gens) s1 := by
    intro H hO hS hok hA hK
    have free : ∀ {b : Addr} {o : Obj} {es : Array DictEntry} {ep : Nat}, s1.heap.get? b = some o → o.data = .dict es ep → H b = none := by
      intro b o es ep e d
      cases q : H b with
      | none => rfl
      | some u =>
        obtain rfl := hA b (by rw [q]; simp)
        rw [ha] at e
        cases e
        exact nomatch (show Data.seq vs.toArray _ = Data.dict es ep from d)
    have ns1 : ∀ {b : Addr} {m : Str → Option Value}, s1.heap.Ns b m → (hidT s1.heap H).Ns b m := fun {b m} ⟨o, es, ep, e, d, r⟩ => ⟨o, es, ep, hidT_get e (free e d), d, r⟩
    have kb : K.In (hidT s1.heap H) := fun b o e => hidT_get (KX b o e) (by
      cases q : H b with
      | none => rfl
      | some u =>
        obtain rfl := hA b (by rw [q]; simp)
        rw [hK (by rw [q]; simp)] at e
        cases e)
    have md : Mod K mg (hidT s1.heap H) := ⟨kb, ns1 hns, ⟨mb, ns1 hb, hbb⟩, let ⟨mc, h1, h2⟩ := hlim; ⟨mc, ns1 h1, h2⟩⟩
    have e0 : Env0 P w K mg (hidT s1.heap H) callerA [] s1 H := ⟨rfl, md, fun b o e => of_hidT e, Nat.le_of_eq (hidT_size _ _), trivial, fun b hb => absurd (show b ∈ ([] : List Addr) from hb) (by simp), hok, .of_eq hg⟩
    refine codeAny_mono ((F _ kb (ns1 hns)).run callerA [] s1 H ⟨[.ref a], []⟩ [.ref a] [.ref a] _ _ rfl hr e0 (hbind s1 (.ref a)) (.cons rfl .nil) (hsp H hO hS)) fun r s' h => ?_
    cases r with
    | error e =>
      have h' : CX0 [] H s1 (fun _ _ _ => False) e s' := h
      exact h'.elim
    | ok fl =>
      cases fl with
      | next => exact False.elim h
      | brk => exact False.elim h
      | cont => exact False.elim h
      | ret u =>
        obtain ⟨v, H', os, bare, un, hok', r', q⟩ := h
        obtain rfl : v = .bl true := q
        obtain rfl : u = Value.bool true := r'
        refine ⟨rfl, OldK.of_keep fun b o e => ?_, os, bare⟩
        cases q : H b with
        | none => exact un.keep b o e q (by intro z; exact absurd (show b ∈ ([] : List Addr) from z) (by simp)) (by simp)
        | some u =>
          rcases hO b with z | ⟨ob, xs, z⟩
          · rw [q] at z
            cases z
          · obtain ⟨e1, _⟩ := hok b _ z
            obtain ⟨e2, _⟩ := hok' b _ (un.frzs b ob _ z)
            rw [e] at e1
            cases e1
            exact e2
  cases hk : K.lookup a with
  | some o =>
    have e := KX a o hk
    rw [ha] at e
    cases e
    refine core (fun _ => none) (fun _ => .inl rfl) (.inr ⟨_, vs.toArray, _, hk, rfl, rfl, rfl, by rw [List.size_toArray, lv]; exact hl, by simpa using rv⟩) (fun b u z => nomatch (show (none : Option HO) = some u from z)) (fun b z => absurd rfl z) fun z => absurd rfl z
  | none =>
    have tr : ∀ b, (if b = a then some (HO.frz { cls := .type "list", data := .seq vs.toArray } (.lst (ns.map V.int))) else none) ≠ none → b = a := fun b z => by
      by_cases hb : b = a
      · exact hb
      · exact absurd (if_neg hb) z
    refine core (fun b => if b = a then some (.frz { cls := .type "list", data := .seq vs.toArray } (.lst (ns.map V.int))) else none) (fun b => ?_) (.inl (.inr ⟨{ cls := .type "list", data := .seq vs.toArray }, if_pos rfl⟩)) (fun b u z => ?_) tr fun _ => hk
    · by_cases hb : b = a
      · exact .inr ⟨_, _, if_pos hb⟩
      · exact .inl (if_neg hb)
    · have hb : b = a := tr b (by rw [show (if b = a then some (HO.frz { cls := .type "list", data := .seq vs.toArray } (.lst (ns.map V.int))) else none) = some u from z]; simp)
      subst hb
      cases (if_pos rfl).symm.trans z
      exact ⟨ha, by rw [List.length_map]; exact hl, vs, _, rv, ha⟩
theorem walkG {l : PySem.W.OpenLaw} {n k : Nat} {q : Program} {loose : List Str} {XP : (Str → Option Value) → Heap → Prop} {YP : World → Heap → Prop} {d : DefRec} {K : Params → PySem.W.Frag} {sp : World → Sp} {x : Str}
    (hn : l.most = some n) (hn2 : n ≤ sizeLine) (hdf : d.params.defaults = []) (hr : Room k callerA)
    (hY : ∀ (w : World) (h : Heap), YP w h → (K w.params).In h)
    (F : ∀ (w : World) (mg : Str → Option Value) (fa : Addr) (h : Heap), (K w.params).In h → h.Ns mainGlobals mg → mg d.name = some (.ref fa) →
      ∃ fd : FuncData, (∀ (s : Shared) (u : Value), BindsTo s fd ⟨[u], []⟩ [(x, u)]) ∧
        ∀ base : Heap, (K w.params).In base → base.Ns mainGlobals mg → FnG l.prog w (K w.params) mg base CX0 k fa fd [x] (sp w))
    (hsp : ∀ (w : World) (H : Hp) (a : Addr) (ns : List Int), ns.length ≤ n → Only H → SqL (K w.params) H a (ns.map V.int) → sp w [.ref a] H (fun v _ => v = .bl true) fun _ _ _ => False) :
    PySem.W.WalkO q loose XP YP l.row.toRowW d [] (fun f vs => PySem.call f vs) := by
  refine Att.attach_call hn hdf fun w s0 s1 mg mb fa o pm cd doc a vs ns G Y ho hd hcd hmg hobj hints hlen hg => ?_
  obtain ⟨fd, hb, hF⟩ := F w mg fa _ (hY w _ Y) G.T.g hmg
  exact law_callG (hY w _ Y) G.T.g G.T.b G.T.builtins G.T.nolimit hg hobj hints (Nat.le_trans hlen hn2) hr hF hb fun H hO hS => hsp w H a ns hlen hO hS
end Cry
/-! Rules at the layer: set and sorted of keys; sorted, <, repr of data; a list unpacked; items of a list or a tuple. -/
namespace Cry
open PySem PySem.Spec PyProof.Rows L2
abbrev Slots := L2.St

/-! ### set(xs), sorted(set) -/
/-- a set of keys that stands at a -/
def KO (w : World) (a : Addr) (ks : List Key) : HO := .ext fun h => KSet w h a ks
theorem kO_new {P : Program} {w : World} {H : Hp} {h : Heap} {a : Addr} {ks : List Key} (R : KSet w h a ks) : ObjOk P w H h a (KO w a ks) := by
  refine ⟨R, ?_, fun h1 h2 r k => r.at k⟩
  obtain ⟨o, _, _, _, ho, _⟩ := R
  exact ⟨o, ho⟩
section
variable {X : Cx} {pins : List (Addr × Obj)} {σ : Slots} {H : Hp} {s : Shared}
theorem kO_get {a : Addr} {ks : List Key} (I : Inv X pins σ H s) (ha : H a = some (KO X.w a ks)) : KSet X.w s.heap a ks := (I.hok a _ ha).1
theorem keys_vals : ∀ {ks : List Key} {us : List Value}, Vals (ks.map kV) us → KeysAre ks us
  | [], us, r => by
    cases r
    exact .nil
  | k :: ks, us, r => by
    cases r with
    | cons h t =>
      refine .cons ?_ (keys_vals t)
      cases k with
      | inl i =>
        obtain ⟨t, rfl⟩ := h
        exact keyIs_int i t
      | inr x =>
        obtain ⟨t, rfl⟩ := h
        exact keyIs_str x t
theorem vals_keys : ∀ {ks : List Key} {us : List Value}, KeysAre ks us → Vals (ks.map kV) us
  | _, _, .nil => .nil
  | _, _, .cons h t => by
    refine .cons ?_ (vals_keys t)
    rcases keyIs_shape h with ⟨i, t, rfl, rfl⟩ | ⟨x, t, rfl, rfl⟩
    · exact ⟨t, rfl⟩
    · exact ⟨t, rfl⟩
/-- set(xs), xs a list or a tuple of ints and texts -/
def rSetK (K : PySem.W.Frag) (w : World) : List V → Hp → VK → Prop := fun vs H Q => ∃ (a : Addr) (ks : List Key), vs = [V.ref a] ∧ (SqL K H a (ks.map kV) ∨ SqT K H a (ks.map kV)) ∧ ks.length + 1 < scanBound ∧
  ∀ p, H p = none → Q (.ref p) (upd H p (KO w p (dedK ks)))
theorem cr_setK (hc : X.calm = true) : CallR X (.type "set") (rSetK X.K X.w) := by
  intro pins s σ H vs us Q I r h
  obtain ⟨a, ks, rfl, hs, hz, q⟩ := h
  rw [Vals.ref1 r]
  have fin : ∀ (h' : Heap) (tk : Nat), KSet X.w h' s.heap.objs.size (dedK ks) → (∀ b o, s.heap.get? b = some o → h'.get? b = some o) → EP X pins σ Q (.ref s.heap.objs.size) { s with heap := h', toks := tk } := fun h' tk R kp =>
    ⟨.ref s.heap.objs.size, _, I.laid (t' := tk) kp (Nat.le_refl _) (kO_new R), rfl, q _ (I.hok.fresh (Nat.le_refl _))⟩
  rcases hs with hs | hs
  · obtain ⟨its, rv, pl, _⟩ := I.list hs
    exact call_set_list (I.ok.hd hc) pl.isList (keys_vals (by simpa using rv)) hz fin
  · obtain ⟨its, rv, pt, _⟩ := I.tuple hs
    exact call_set_tup (I.ok.hd hc) pt (keys_vals (by simpa using rv)) hz fin
/-- sorted of a set of keys of one kind -/
def rSortedK (w : World) : List V → Hp → VK → Prop := fun vs H Q => ∃ (a : Addr) (ks : List Key), vs = [V.ref a] ∧ H a = some (KO w a ks) ∧ OneKind ks ∧
  ∀ (ls : List Key) (p : Addr), ls.Perm ks → ls.Pairwise (fun x y => PySem.W.dataLe false encK x y = true) → H p = none → Q (.ref p) (upd H p (.lst (ls.map kV)))
theorem cr_sortedK (hc : X.calm = true) (hu : X.A.units + 64 < cLine) : CallR X (.builtin "sorted") (rSortedK X.w) := by
  intro pins s σ H vs us Q I r h
  obtain ⟨a, ks, rfl, ha, ok, q⟩ := h
  have R := kO_get I ha
  rw [Vals.ref1 r]
  have lk : ks.length ≤ sizeLine := by
    obtain ⟨o, es, ep, t, _, _, _, _, pk, _, hb, _⟩ := id R
    have := pk.length_eq
    rw [List.length_map, Array.length_toList] at this
    rw [← this]
    exact fits_of_scanBound hb
  refine sorted_kset R (I.ok.hd hc) ok (by omega) fun s' p out c ls k g o hp hat hk pm so => ?_
  have hn : H p = none := I.hok.fresh hp
  have J : Inv X pins σ (upd H p (.lst (ls.map kV))) { s with heap := s'.heap, gens := s'.gens, drawn := s'.drawn, toks := s'.toks } :=
    I.call (ch := []) (Un.laid k hp hn) (I.hok.laid k hp ⟨by rw [List.length_map, pm.length_eq]; exact lk, out, c, vals_keys hk, hat⟩) (by rw [g]; exact I.bare) (fun _ z => nomatch z)
  have e : s' = { s with heap := s'.heap, gens := s'.gens, drawn := s'.drawn, toks := s'.toks } := by
    cases s'
    cases s
    cases o
    rfl
  rw [e]
  exact ⟨.ref p, _, J, rfl, q ls p pm so hn⟩

/-! ### data: values with what they stand for -/
/-- each value stands for its datum -/
def Dps (K : PySem.W.Frag) (H : Hp) (bs : List (V × PyData)) : Prop := ∀ b ∈ bs, Dp K H b.1 b.2
/-- sorted(xs), xs a list of alike data: the very same values, in their order -/
def rSortedD (K : PySem.W.Frag) : List V → Hp → VK → Prop := fun vs H Q => ∃ (a : Addr) (bs : List (V × PyData)), vs = [V.ref a] ∧ SqL K H a (bs.map Prod.fst) ∧ Dps K H bs ∧
  PySem.W.AllAlike (bs.map Prod.snd) ∧ PySem.W.Sortable (bs.map Prod.snd) ∧ (∀ b ∈ bs, b.2.depth ≤ 20) ∧
  ∀ p, H p = none → Q (.ref p) (upd H p (.lst ((bs.mergeSort (PySem.W.dataLe false Prod.snd)).map Prod.fst)))
theorem each_vals : ∀ {bs : List (V × PyData)} {us : List Value}, Vals (bs.map Prod.fst) us → PySem.W.EachIs (fun (v : Value) (b : V × PyData) => RelV b.1 v) us bs
  | [], us, r => by
    cases r
    exact .nil
  | b :: bs, us, r => by
    cases r with
    | cons h t => exact .cons h (each_vals t)
theorem vals_each : ∀ {bs : List (V × PyData)} {us : List Value}, PySem.W.EachIs (fun (v : Value) (b : V × PyData) => RelV b.1 v) us bs → Vals (bs.map Prod.fst) us
  | _, _, .nil => .nil
  | _, _, .cons h t => .cons h (vals_each t)
theorem each_reads (I : Inv X pins σ H s) : ∀ {bs : List (V × PyData)} {us : List Value}, Dps X.K H bs → PySem.W.EachIs (fun (v : Value) (b : V × PyData) => RelV b.1 v) us bs →
    PySem.W.EachIs (fun (v : Value) (b : V × PyData) => ∃ as, Reads s.heap v b.2 as) us bs
  | _, _, _, .nil => .nil
  | b :: bs, _, d, .cons h t => .cons (Dp.reads I b.2 b.1 _ (d b List.mem_cons_self) h) (each_reads I (fun c hc => d c (List.mem_cons_of_mem _ hc)) t)
theorem cr_sortedD (hu : X.A.units + 64 < cLine) : CallR X (.builtin "sorted") (rSortedD X.K) := by
  intro pins s σ H vs us Q I r h
  obtain ⟨a, bs, rfl, hs, hd, al, so, dp, q⟩ := h
  rw [Vals.ref1 r]
  obtain ⟨its, rv, pl, lz⟩ := I.list hs
  have ea := each_vals rv
  rw [List.length_map] at lz
  refine PySem.W.sorted_data (enc := Prod.snd) pl.isList ea (each_reads I hd ea) al so lz (fun b hb => ?_) fun out hl ho => ?_
  · have := dp b hb
    omega
  · obtain ⟨e, hat⟩ := sortedAll_at s.heap its out.toArray
    have hp : s.heap.objs.size ≤ s.heap.objs.size + 1 := Nat.le_succ _
    have new : ObjOk X.prog X.w (upd H (s.heap.objs.size + 1) (.lst ((bs.mergeSort (PySem.W.dataLe false Prod.snd)).map Prod.fst))) (sortedAll s.heap its out.toArray) (s.heap.objs.size + 1) (.lst ((bs.mergeSort (PySem.W.dataLe false Prod.snd)).map Prod.fst)) :=
      ⟨by rw [List.length_map, List.length_mergeSort]; exact lz, out, e, vals_each ho, hat⟩
    exact ⟨.ref (s.heap.objs.size + 1), _, I.laid (t' := s.toks) (fun b u z => sortedAll_old z) hp new, rfl, q _ (I.hok.fresh hp)⟩
/-- x < y of alike data -/
def rLtD (K : PySem.W.Frag) : R2 := fun x y H Q => ∃ d e, Dp K H x d ∧ Dp K H y e ∧ PySem.W.alike d e = true ∧ d ≠ .none ∧ d.depth ≤ 20 ∧ Q (.bl (PySem.W.dataLt d e)) H
theorem op_ltD (hu : X.A.units + 64 < cLine) : OpR X (compareOp .Lt) (rLtD X.K) := by
  intro pins s σ H x y v u Q I rx ry h
  obtain ⟨d, e, hd, he, al, nn, dp, q⟩ := h
  obtain ⟨as, r1⟩ := Dp.reads I d x v hd rx
  obtain ⟨bs, r2⟩ := Dp.reads I e y u he ry
  exact PySem.W.rcLt_alike d e X.A s v u as bs r1 r2 al nn (by omega) _ _ _ _ ⟨.bl _, H, I, rfl, q⟩
/-- repr of data that has no dict in it, where no repr is under way -/
def rReprD (K : PySem.W.Frag) : List V → Hp → VK → Prop := fun vs H Q => ∃ (x : V) (d : PyData), vs = [x] ∧ Dp K H x d ∧ d.depth ≤ 20 ∧ d.shown.length ≤ sizeLine ∧ (∀ i, d = .int i → i.natAbs.log2 < 1920) ∧ Q (.str d.shown) H
end
end Cry
/-! repr of data; a list unpacked; a walk over a list or a tuple. -/
namespace Cry
open PySem PySem.Spec PyProof.Rows L2

/-! ### repr -/
mutual
theorem dp_nodict {K : PySem.W.Frag} {H : Hp} : ∀ (d : PyData) (v : V), Dp K H v d → d.hasDict = false
  | .none, _, _ => by simp only [PyData.hasDict]
  | .bool _, _, _ => by simp only [PyData.hasDict]
  | .int _, _, _ => by simp only [PyData.hasDict]
  | .str _, _, _ => by simp only [PyData.hasDict]
  | .list ds, _, h => by
    cases h with
    | lst _ ha =>
      simp only [PyData.hasDict]
      exact dps_nodict ds _ ha
  | .tuple ds, _, h => by
    cases h with
    | tup _ ha =>
      simp only [PyData.hasDict]
      exact dps_nodict ds _ ha
  | .dict _, _, h => by cases h
theorem dps_nodict {K : PySem.W.Frag} {H : Hp} : ∀ (ds : List PyData) (vs : List V), DpAll K H vs ds → PyData.hasDictAll ds = false
  | [], _, _ => by simp only [PyData.hasDictAll]
  | d :: ds, _, h => by
    cases h with
    | cons h1 h2 => simp only [PyData.hasDictAll, dp_nodict d _ h1, dps_nodict ds _ h2, Bool.or_self]
end
section
variable {X : Cx} {pins : List (Addr × Obj)} {σ : Slots} {H : Hp} {s : Shared}
/-- repr(x), where no repr is under way -/
def rRepr (K : PySem.W.Frag) : List V → Hp → VK → Prop := fun vs H Q => ∃ (x : V) (d : PyData), vs = [x] ∧ Dp K H x d ∧ d.depth ≤ 20 ∧ d.shown.length ≤ sizeLine ∧ d.showable = true ∧ Q (.str d.shown) H
theorem cr_repr (hg : X.A.guards = some []) (hu : X.A.units + 64 < cLine) : CallR X (.builtin "repr") (rRepr X.K) := by
  intro pins s σ H vs us Q I r h
  obtain ⟨x, d, rfl, hd, dp, sz, sh, q⟩ := h
  obtain ⟨u, rfl, ru⟩ := vals1 r
  have nd := dp_nodict d x hd
  obtain ⟨as, rd⟩ := Dp.reads I d x u hd ru
  cases d with
  | none =>
    cases rd
    exact P.repr_of_none ⟨.str _, H, I.tok _, ⟨_, rfl⟩, q⟩
  | bool b =>
    cases rd
    exact P.repr_of_bool ⟨.str _, H, I.tok _, ⟨_, rfl⟩, q⟩
  | int i =>
    cases rd with
    | int i t => exact P.repr_of_int (by simpa [PyData.showable] using sh) ⟨.str _, H, I.tok _, ⟨_, rfl⟩, q⟩
  | str y =>
    cases rd with
    | str y t => exact P.repr_of_str ⟨.str _, H, I.tok _, ⟨_, rfl⟩, q⟩ sz
  | list ds =>
    cases hd with
    | lst hs ha =>
      obtain rfl : u = Value.ref _ := ru
      exact repr_of_reads' rd sh (fun z => absurd (nd.symm.trans z) (by decide)) hg (by omega) (fun _ _ e => e) (fun h' u' tk kp => ⟨.str _, H, I.kept (t' := tk) kp, ⟨_, rfl⟩, q⟩) sz
  | tuple ds =>
    cases hd with
    | tup hs ha =>
      obtain rfl : u = Value.ref _ := ru
      exact repr_of_reads' rd sh (fun z => absurd (nd.symm.trans z) (by decide)) hg (by omega) (fun _ _ e => e) (fun h' u' tk kp => ⟨.str _, H, I.kept (t' := tk) kp, ⟨_, rfl⟩, q⟩) sz
  | dict kvs => cases hd

/-! ### a, b = a list -/
end
section
variable {prog : Program} {w : World} {A : Around} {E : Value → Shared → Prop} {s : Shared}
theorem draw_lst {it l : Addr} {items : Array Value} (hne : l ≠ it) : ∀ (n i : Nat) (s : Shared) (Q : List Value → Shared → Prop), s.heap.IsListIter it l i → s.heap.IsList l items → i + n ≤ items.size →
    (∀ h', h'.IsListIter it l (i + n) → Heap.SameBut it s.heap h' → Q ((items.toList.drop i).take n) { s with heap := h' }) → wpAny (model prog w) A (draw (.ref it) n) Q E s
  | 0, i, s, Q, st, _, _, hQ => by
    show wpAny _ _ (pure []) Q E s
    exact wpAny_pure (by simpa using hQ s.heap st (Heap.SameBut.refl ..))
  | n + 1, i, s, Q, st, hl, le, hQ => by
    have lt : i < items.size := by omega
    show wpAny _ _ (pyNext (.ref it) >>= _) Q E s
    refine wpAny_bind (wpAny_pyNext_list_item st hl (x := items[i]) (by simp [lt]) fun h1 st1 sb => ?_)
    have hl1 : h1.IsList l items := by
      obtain ⟨o, ho, hc, nn, hd⟩ := hl
      exact ⟨o, sb.extBut l o hne ho, hc, nn, hd⟩
    refine wpAny_bind (wpAny_holding (draw_lst hne n (i + 1) _ _ st1 hl1 (by omega) fun h2 st2 sb2 => wpAny_pure ?_))
    have q := hQ h2 (by rw [show i + (n + 1) = i + 1 + n by omega]; exact st2) (sb.trans sb2)
    rw [show items.toList.drop i = items[i] :: items.toList.drop (i + 1) by simp [List.drop_eq_getElem_cons, lt], List.take_succ_cons] at q
    exact q
theorem unpackItems_lst {l : Addr} {items : Array Value} {Q : List Value → Shared → Prop} (hh : A.handled = none) (hl : s.heap.IsList l items)
    (hQ : ∀ h', Heap.ExtBut s.heap.objs.size s.heap h' → Q items.toList { s with heap := h' }) : wpAny (model prog w) A (unpackItems (.ref l) items.size none) Q E s := by
  have hne : l ≠ s.heap.objs.size := by
    obtain ⟨o, ho, _⟩ := hl
    exact Nat.ne_of_lt (Heap.lt_size ho)
  have pushed : (s.heap.push { cls := .type "list_iterator", data := .fields #[.ref l, .int 0 0] }).IsList l items := by
    obtain ⟨o, ho, hc, nn, hd⟩ := hl
    exact ⟨o, Heap.get?_push_of_some _ ho, hc, nn, hd⟩
  unfold unpackItems
  refine wpAny_bind ?_
  unfold notIterableAtAll
  refine wpAny_bind (wpAny_specialOf hl.typeIs slot_list_iter.lookup ?_)
  refine wpAny_pure ?_
  simp only [Bool.false_eq_true, if_false]
  refine wpAny_bind (wpAny_holding (wpAny_pyIter_list hl ?_))
  refine wpAny_bind (wpAny_holding (draw_lst hne items.size 0 _ _ ⟨_, Heap.get?_push_size _ rfl, rfl, rfl⟩ pushed (by omega) fun h1 st1 sb => ?_))
  rw [List.drop_zero, List.take_of_length_le (by simp), if_neg (by simp)]
  have hl1 : h1.IsList l items := by
    obtain ⟨o, ho, hc, nn, hd⟩ := pushed
    exact ⟨o, sb.extBut l o hne ho, hc, nn, hd⟩
  refine wpAny_bind (wpAny_holding (wpAny_pyNext_list_end hh st1 hl1 (by simp) fun h2 eb => ?_))
  simp only [Option.isSome_none, Bool.false_eq_true, if_false]
  exact wpAny_pure (hQ h2 fun b o hb e => eb b o hb (sb.extBut b o hb (Heap.get?_push_of_some _ e)))
theorem assign_lst {env : Env} {elts : List Expr} {x1} {pos : Pos} {l : Addr} {items : Array Value} {Q : Unit → Shared → Prop} (hh : A.handled = none) (hl : s.heap.IsList l items)
    (hn : (assignEach elts env).length = items.size) (hst : (assignEach elts env).findIdx? (·.1) = none)
    (h : ∀ h', Heap.ExtBut s.heap.objs.size s.heap h' → wpAny (model prog w) A (assignInOrder ((assignEach elts env).map (·.2)) items.toList) Q E { s with heap := h' }) :
    wpAny (model prog w) A (assign (.Tuple elts x1 pos) env (.ref l)) Q E s := by
  rw [arm_assign_Tuple]
  refine wpAny_bind (wpAny_standAt ?_)
  unfold unpack
  rw [hn, hst]
  exact wpAny_bind (wpAny_holding (unpackItems_lst hh hl h))
end
section
variable {X : Cx}
/-- (a, b, ..) = a list or a tuple of that length -/
def gRow (K : PySem.W.Frag) (n : Nat) (t : TGs) : TG := fun v σ H Q => ∃ a xs, v = .ref a ∧ (SqL K H a xs ∨ SqT K H a xs) ∧ xs.length = n ∧ t xs σ H Q
theorem pg_row {es : List Expr} {k : Nat} {pos : Pos} {t : TGs} {n : Nat} (hc : X.calm = true) (h : PGs X es t)
    (hn : (assignEach es X.env).length = n := by rfl) (hst : (assignEach es X.env).findIdx? (·.1) = none := by rfl) : PG X (.Tuple es k pos) (gRow X.K n t) := by
  refine ⟨fun pins s σ H v u Q I r hw => ?_⟩
  obtain ⟨a, xs, rfl, hq, hl, hw⟩ := hw
  rcases hq with hq | hq
  · cases r
    obtain ⟨its, rv, pl, hz⟩ := I.list hq
    refine assign_lst (I.ok.hd hc) pl.isList (by simp [hn, ← hl, rv.length]) hst fun h' hx => ?_
    have I1 : Inv X pins σ H { s with heap := h' } := I.kept (t' := s.toks) fun b o e => hx b o (Nat.ne_of_lt (Heap.lt_size e)) e
    exact h.run pins _ σ H xs _ Q I1 (by simpa using rv) hw
  · exact (pg_tup hc h hn hst).run pins s σ H (.ref a) u Q I r ⟨a, xs, rfl, hq, hl, hw⟩
/-- a walk over a list or a tuple -/
def iRow (K : PySem.W.Frag) (tl : TE) : TI := fun σ H R => tl σ H fun x H1 => ∃ a, x = .ref a ∧ (((∃ xs, SqL K H1 a xs) ∧ R (Itl K a) H1) ∨ ((∃ xs, SqT K H1 a xs) ∧ R (Itt K a) H1))
theorem pi_row {tg l : Expr} {tl : TE} (hl : PE X l tl) : PI X tg l (iRow X.K tl) := by
  refine ⟨fun pins s σ H R I h => ?_⟩
  refine thn (hl.run pins s σ H _ I h) fun v s1 ⟨x, H1, I1, r1, q1⟩ => ?_
  obtain ⟨a, rfl, q⟩ := q1
  cases r1
  have fp : ∀ b ∈ [s1.heap.objs.size], FpOk X pins H1 b := fun b hb => by
    rw [List.mem_singleton.mp hb]
    exact I1.fpOk (Nat.le_refl _) (I1.hok.fresh (Nat.le_refl _))
  rcases q with ⟨⟨xs, hq⟩, q⟩ | ⟨⟨xs, hq⟩, q⟩
  · obtain ⟨its, rv, p, _⟩ := I1.list hq
    refine wpAny_pyIter_list p.isList ⟨s1.heap.objs.size, [s1.heap.objs.size], _, _, H1, rfl, I1.kept (t' := s1.toks) fun b o e => Heap.get?_push_of_some _ e, turn_list a _, ⟨_, Heap.get?_push_size _ rfl, rfl, rfl⟩, fp, q⟩
  · obtain ⟨its, rv, p, _⟩ := I1.tuple hq
    refine wpAny_pyIter_tuple (show s1.heap.IsTuple a its.toArray from p) ⟨s1.heap.objs.size, [s1.heap.objs.size], _, _, H1, rfl, I1.kept (t' := s1.toks) fun b o e => Heap.get?_push_of_some _ e, turn_tuple a _, ⟨_, Heap.get?_push_size _ rfl, rfl, rfl⟩, fp, q⟩
end
end Cry
/-! Data that never changes (numbers, texts, tuples of such), lists of such; comprehensions. -/
namespace Cry
open PySem PySem.Spec PyProof.Rows L2

/-! ### heaps that go on -/
/-- all but D stays -/
def SameO (D : Addr) (H H' : Hp) : Prop := ∀ b o, b ≠ D → H b = some o → H' b = some o
/-- the tuples stay -/
def TS (H H' : Hp) : Prop := ∀ b xs, H b = some (.tup xs) → H' b = some (.tup xs)
theorem TS.refl (H : Hp) : TS H H := fun _ _ h => h
theorem TS.trans {H H1 H2 : Hp} (a : TS H H1) (b : TS H1 H2) : TS H H2 := fun c xs h => b c xs (a c xs h)
theorem TS.same {H H' : Hp} (s : Same H H') : TS H H' := fun b xs h => s b _ h
theorem TS.sameO {D : Addr} {H H' : Hp} (s : SameO D H H') (n : ∀ xs, H D ≠ some (.tup xs)) : TS H H' := fun b xs h => s b _ (fun e => n xs (e ▸ h)) h
theorem TS.lst {H : Hp} {D : Addr} {xs : List V} {o : HO} (h : H D = some (.lst xs)) : TS H (upd H D o) := fun b ys e => by
  rw [upd_ne (fun z => by rw [z, h] at e; cases e)]
  exact e
theorem TS.new {H : Hp} {D : Addr} {o : HO} (h : H D = none) : TS H (upd H D o) := fun b ys e => by
  rw [upd_ne (ne_of_none e h)]
  exact e
theorem same_new {H : Hp} {D : Addr} {o : HO} (h : H D = none) : Same H (upd H D o) := fun b u e => by
  rw [upd_ne (ne_of_none e h)]
  exact e
/-- what stood ahead of D stays through a store at D -/
theorem same_at {H H1 : Hp} {D : Addr} {o : HO} (s : Same H H1) (h : H D = none) : Same H (upd H1 D o) := fun b u e => by
  rw [upd_ne (ne_of_none e h)]
  exact s b u e
theorem SameO.of {D : Addr} {H H' : Hp} (s : Same H H') : SameO D H H' := fun b o _ e => s b o e
theorem SameO.trans {D : Addr} {H H1 H2 : Hp} (a : SameO D H H1) (b : SameO D H1 H2) : SameO D H H2 := fun c o n e => b c o n (a c o n e)

/-! ### data that never changes -/
mutual
inductive Im (H : Hp) : V → PyData → Prop
  | non : Im H .non .none
  | bl (b : Bool) : Im H (.bl b) (.bool b)
  | int (i : Int) : Im H (.int i) (.int i)
  | str (x : Str) : Im H (.str x) (.str x)
  | tup {a : Addr} {xs : List V} {ds : List PyData} : H a = some (.tup xs) → Ims H xs ds → Im H (.ref a) (.tuple ds)
inductive Ims (H : Hp) : List V → List PyData → Prop
  | nil : Ims H [] []
  | cons {v : V} {vs : List V} {d : PyData} {ds : List PyData} : Im H v d → Ims H vs ds → Ims H (v :: vs) (d :: ds)
end
mutual
theorem Im.on {H H' : Hp} (t : TS H H') : ∀ {v : V} {d : PyData}, Im H v d → Im H' v d
  | _, _, .non => .non
  | _, _, .bl b => .bl b
  | _, _, .int i => .int i
  | _, _, .str x => .str x
  | _, _, .tup h s => .tup (t _ _ h) (Ims.on t s)
theorem Ims.on {H H' : Hp} (t : TS H H') : ∀ {vs : List V} {ds : List PyData}, Ims H vs ds → Ims H' vs ds
  | _, _, .nil => .nil
  | _, _, .cons h s => .cons (Im.on t h) (Ims.on t s)
end
mutual
theorem Im.dp {K : PySem.W.Frag} {H : Hp} : ∀ {v : V} {d : PyData}, Im H v d → Dp K H v d
  | _, _, .non => .non
  | _, _, .bl b => .bl b
  | _, _, .int i => .int i
  | _, _, .str x => .str x
  | _, _, .tup h s => .tup (SqT.of h) (Ims.dp s)
theorem Ims.dp {K : PySem.W.Frag} {H : Hp} : ∀ {vs : List V} {ds : List PyData}, Ims H vs ds → DpAll K H vs ds
  | _, _, .nil => .nil
  | _, _, .cons h s => .cons (Im.dp h) (Ims.dp s)
end
theorem Ims.length {H : Hp} : ∀ {vs : List V} {ds : List PyData}, Ims H vs ds → vs.length = ds.length
  | _, _, .nil => rfl
  | _, _, .cons _ s => by rw [List.length_cons, List.length_cons, Ims.length s]
theorem Ims.get {H : Hp} : ∀ {vs : List V} {ds : List PyData} {i : Nat} {d : PyData}, Ims H vs ds → ds[i]? = some d → ∃ v, vs[i]? = some v ∧ Im H v d
  | _, _, i, _, .nil, e => by simp at e
  | _, _, 0, d, .cons h _, e => by
    simp at e
    subst e
    exact ⟨_, rfl, h⟩
  | _, _, i + 1, d, .cons _ s, e => by
    obtain ⟨v, h1, h2⟩ := Ims.get (i := i) s (by simpa using e)
    exact ⟨v, by simpa using h1, h2⟩
theorem Ims.at {H : Hp} : ∀ {vs : List V} {ds : List PyData} {i : Nat} {v : V}, Ims H vs ds → vs[i]? = some v → ∃ d, ds[i]? = some d ∧ Im H v d
  | _, _, i, _, .nil, e => by simp at e
  | _, _, 0, v, .cons h _, e => by
    simp at e
    subst e
    exact ⟨_, rfl, h⟩
  | _, _, i + 1, v, .cons _ s, e => by
    obtain ⟨d, h1, h2⟩ := Ims.at (i := i) s (by simpa using e)
    exact ⟨d, by simpa using h1, h2⟩
theorem Ims.of {H : Hp} : ∀ {vs : List V} {ds : List PyData}, vs.length = ds.length → (∀ (i : Nat) (v : V) (d : PyData), vs[i]? = some v → ds[i]? = some d → Im H v d) → Ims H vs ds
  | [], [], _, _ => .nil
  | v :: vs, d :: ds, hl, h => .cons (h 0 v d rfl rfl) (Ims.of (by simpa using hl) fun i v' d' e1 e2 => h (i + 1) v' d' (by simpa using e1) (by simpa using e2))
theorem Ims.append {H : Hp} : ∀ {vs ws : List V} {ds es : List PyData}, Ims H vs ds → Ims H ws es → Ims H (vs ++ ws) (ds ++ es)
  | _, _, _, _, .nil, t => t
  | _, _, _, _, .cons h s, t => .cons h (Ims.append s t)
theorem Ims.take {H : Hp} : ∀ {vs : List V} {ds : List PyData} (n : Nat), Ims H vs ds → Ims H (vs.take n) (ds.take n)
  | _, _, 0, _ => .nil
  | _, _, _ + 1, .nil => .nil
  | _, _, n + 1, .cons h s => .cons h (Ims.take n s)
theorem Ims.drop {H : Hp} : ∀ {vs : List V} {ds : List PyData} (n : Nat), Ims H vs ds → Ims H (vs.drop n) (ds.drop n)
  | _, _, 0, s => s
  | _, _, _ + 1, .nil => .nil
  | _, _, n + 1, .cons _ s => Ims.drop n s
theorem Ims.strs {H : Hp} : ∀ xs : List Str, Ims H (xs.map V.str) (xs.map PyData.str)
  | [] => .nil
  | x :: xs => .cons (.str x) (Ims.strs xs)
theorem Ims.ints {H : Hp} : ∀ xs : List Int, Ims H (xs.map V.int) (xs.map PyData.int)
  | [] => .nil
  | x :: xs => .cons (.int x) (Ims.ints xs)
/-- the pairs of values and data -/
theorem Ims.pairs {K : PySem.W.Frag} {H : Hp} {vs : List V} {ds : List PyData} (h : Ims H vs ds) : Dps K H (vs.zip ds) := fun b hb => by
  obtain ⟨i, hi⟩ := List.getElem?_of_mem hb
  obtain ⟨h1, h2⟩ := List.getElem?_zip_eq_some.mp hi
  obtain ⟨d, e, m⟩ := Ims.at h h1
  have := Option.some.inj (e.symm.trans h2)
  rw [← this]
  exact m.dp
/-- v is a list or a tuple that holds xs -/
def Row (K : PySem.W.Frag) (H : Hp) (v : V) (xs : List V) : Prop := ∃ a, v = .ref a ∧ (SqL K H a xs ∨ SqT K H a xs)

/-! ### a comprehension without tests -/
section
variable {J : It} {n : Nat} {G : Hp → Prop} {Y : Nat → Hp → V → Hp → Prop}
/-- Gd: what is known of the heap; R: what is known of the i-th item made; St: a step of the heap that keeps what is known of items -/
theorem lc_gen (w : Walk J n G Y) {g : TG} {te : TE} {vs : List Nat} {σ : Slots} {H1 : Hp} {D : Addr} {Qd : Hp → Prop} (St : Hp → Hp → Prop) (Gd : Nat → Hp → Prop) (R : Nat → V → Hp → Prop) (hn : n ≤ sizeLine)
    (sD : ∀ H acc acc', H D = some (.lst acc) → St H (upd H D (.lst acc'))) (gD : ∀ i H acc acc', H D = some (.lst acc) → Gd i H → Gd i (upd H D (.lst acc')))
    (rS : ∀ j y H H', St H H' → R j y H → R j y H') (g0 : Gd 0 (upd H1 D (.lst []))) (hG : ∀ i H, Gd i H → G H)
    (hs : ∀ i x H H' acc (Z : VK), i < n → Gd i H → H D = some (.lst acc) → Y i H x H' → (∀ y H4, H4 D = some (.lst acc) → St H H4 → Gd (i + 1) H4 → R i y H4 → Z y H4) →
      g x (wipe σ vs) H' fun σ2 H2 => wipe σ2 vs = wipe σ vs ∧ te σ2 H2 Z)
    (hd : ∀ H ys, Gd n H → H D = some (.lst ys) → ys.length = n → (∀ i y, ys[i]? = some y → R i y H) → Qd H) :
    ∃ W : Nat → Nat → Hp → Prop, (∃ m, W 0 m (upd H1 D (.lst []))) ∧ ∀ i m H, W i m H →
      (J.stop i H ∧ Qd H) ∨ (J.go i H ∧ ∃ Nx : Hp → Prop, (∀ H', Nx H' → ∃ m', m' < m ∧ W (i + 1) m' H') ∧ ∀ x H', J.yld i H x H' → g x (wipe σ vs) H' fun σ2 H2 => wipe σ2 vs = wipe σ vs ∧ tYes σ2 H2 fun b H3 =>
        if b = true then te σ2 H3 fun y H4 => ∃ acc, H4 D = some (.lst acc) ∧ acc.length < sizeLine ∧ Nx (upd H4 D (.lst (acc ++ [y]))) else Nx H3) := by
  refine lc_it w (fun i H => Gd i H ∧ ∃ acc, H D = some (.lst acc) ∧ acc.length = i ∧ ∀ j y, acc[j]? = some y → R j y H) ⟨g0, [], upd_same, rfl, fun j y e => by simp at e⟩ (fun i H _ p => hG i H p.1) ?_ ?_
  · rintro i x H H' hi ⟨gd, acc, hacc, hlen, hr⟩ hy
    refine hs i x H H' acc (fun y H4 => ∃ acc, H4 D = some (.lst acc) ∧ acc.length < sizeLine ∧ _) hi gd hacc hy fun y H4 q1 q2 q3 q4 => ?_
    have st := sD H4 acc (acc ++ [y]) q1
    refine ⟨acc, q1, by omega, gD _ _ _ _ q1 q3, acc ++ [y], upd_same, by simp [hlen], fun j z e => ?_⟩
    by_cases hj : j < acc.length
    · rw [List.getElem?_append_left hj] at e
      exact rS _ _ _ _ st (rS _ _ _ _ q2 (hr j z e))
    · rw [List.getElem?_append_right (by omega)] at e
      have e0 : j - acc.length = 0 := by
        cases z0 : j - acc.length with
        | zero => rfl
        | succ k => rw [z0] at e; simp at e
      rw [e0] at e
      simp at e
      subst e
      have ej : j = i := by omega
      subst ej
      exact rS _ _ _ _ st q4
  · rintro H ⟨gd, ys, h1, h2, h3⟩
    exact hd H ys gd h1 h2 h3

/-- .. whose items are plain values f i, while the heap only grows -/
theorem lc_pure (w : Walk J n G Y) {g : TG} {te : TE} {vs : List Nat} {σ : Slots} {H1 : Hp} {D : Addr} {Qd : Hp → Prop} (f : Nat → V) (hn : n ≤ sizeLine) (nD : H1 D = none)
    (hG : ∀ H, Same H1 H → G H) (hY : ∀ i H x H', Y i H x H' → Same H H')
    (hs : ∀ i x H H' (Z : VK), i < n → Same H1 H → Y i H x H' → (∀ H4, Same H' H4 → Z (f i) H4) → g x (wipe σ vs) H' fun σ2 H2 => wipe σ2 vs = wipe σ vs ∧ te σ2 H2 Z)
    (hd : ∀ H, Same H1 H → H D = some (.lst ((List.range n).map f)) → Qd H) :
    ∃ W : Nat → Nat → Hp → Prop, (∃ m, W 0 m (upd H1 D (.lst []))) ∧ ∀ i m H, W i m H →
      (J.stop i H ∧ Qd H) ∨ (J.go i H ∧ ∃ Nx : Hp → Prop, (∀ H', Nx H' → ∃ m', m' < m ∧ W (i + 1) m' H') ∧ ∀ x H', J.yld i H x H' → g x (wipe σ vs) H' fun σ2 H2 => wipe σ2 vs = wipe σ vs ∧ tYes σ2 H2 fun b H3 =>
        if b = true then te σ2 H3 fun y H4 => ∃ acc, H4 D = some (.lst acc) ∧ acc.length < sizeLine ∧ Nx (upd H4 D (.lst (acc ++ [y]))) else Nx H3) := by
  refine lc_gen w (fun _ _ => True) (fun _ H => Same H1 H) (fun i y _ => y = f i) hn (fun _ _ _ _ => True.intro) (fun i H acc acc' _ gd => same_at gd nD) (fun _ _ _ _ _ r => r) (same_new nD) (fun i H gd => hG H gd) ?_ ?_
  · intro i x H H' acc Z hi gd hacc hy k
    have s1 := hY i H x H' hy
    exact hs i x H H' Z hi gd hy fun H4 s2 => k _ _ (s2 _ _ (s1 _ _ hacc)) True.intro ((gd.trans s1).trans s2) rfl
  · intro H ys gd h1 h2 h3
    refine hd H gd ?_
    have e : ys = (List.range n).map f := by
      apply List.ext_getElem?
      intro i
      by_cases hi : i < n
      · rw [List.getElem?_map, List.getElem?_range hi, List.getElem?_eq_getElem (by omega)]
        have := h3 i _ (List.getElem?_eq_getElem (show i < ys.length by omega))
        rw [this]
        rfl
      · rw [List.getElem?_eq_none (by omega), List.getElem?_eq_none (by simp; omega)]
    rw [← e]
    exact h1
theorem yAt_same {xs : List V} : ∀ i H x H', YAt xs i H x H' → Same H H' := fun i H x H' y => by
  rw [y.1]
  exact Same.refl H
theorem yPair_same {a b : Nat → Option V} : ∀ i H x H', YPair a b i H x H' → Same H H' := fun i H x H' y => by
  obtain ⟨T, u, v, _, nT, e, _⟩ := y
  rw [e]
  exact same_new nT
end

/-! ### data of any kind that a call may be handed -/
/-- v stands for d; a dict of any entries stands for a dict -/
inductive Da (H : Hp) : V → PyData → Prop
  | non : Da H .non .none
  | bl (b : Bool) : Da H (.bl b) (.bool b)
  | int (i : Int) : Da H (.int i) (.int i)
  | str (x : Str) (hz : x.length ≤ sizeLine) : Da H (.str x) (.str x)
  | lst {a : Addr} {xs : List V} {ds : List PyData} (h : H a = some (.lst xs)) (hl : xs.length = ds.length) (hi : ∀ (i : Nat) (x : V) (e : PyData), xs[i]? = some x → ds[i]? = some e → Da H x e) : Da H (.ref a) (.list ds)
  | tup {a : Addr} {xs : List V} {ds : List PyData} (h : H a = some (.tup xs)) (hl : xs.length = ds.length) (hi : ∀ (i : Nat) (x : V) (e : PyData), xs[i]? = some x → ds[i]? = some e → Da H x e) : Da H (.ref a) (.tuple ds)
  | dic {a : Addr} {kvs : List (Key × V)} {es : List (PyData × PyData)} (h : H a = some (.dK kvs)) : Da H (.ref a) (.dict es)
section
variable {K : PySem.W.Frag} {H H' : Hp}
theorem sqT_same {a : Addr} {xs : List V} (e : Same H H') (h : SqT K H a xs) : SqT K H' a xs := by
  rcases h with (h | ⟨o, h⟩) | h
  · exact .inl (.inl (e _ _ h))
  · exact .inl (.inr ⟨o, e _ _ h⟩)
  · exact .inr h
theorem Da.on (s : Same H H') {v : V} {d : PyData} (h : Da H v d) : Da H' v d := by
  induction h with
  | non => exact .non
  | bl b => exact .bl b
  | int i => exact .int i
  | str x hz => exact .str x hz
  | lst h hl _ ih => exact .lst (s _ _ h) hl ih
  | tup h hl _ ih => exact .tup (s _ _ h) hl ih
  | dic h => exact .dic (s _ _ h)
mutual
theorem Dp.on (s : Same H H') : ∀ {v : V} {d : PyData}, Dp K H v d → Dp K H' v d
  | _, _, .non => .non
  | _, _, .bl b => .bl b
  | _, _, .int i => .int i
  | _, _, .str x => .str x
  | _, _, .lst h t => .lst (s.seq h) (DpAll.on s t)
  | _, _, .tup h t => .tup (sqT_same s h) (DpAll.on s t)
theorem DpAll.on (s : Same H H') : ∀ {vs : List V} {ds : List PyData}, DpAll K H vs ds → DpAll K H' vs ds
  | _, _, .nil => .nil
  | _, _, .cons h t => .cons (Dp.on s h) (DpAll.on s t)
end
theorem dpAll_len : ∀ {vs : List V} {ds : List PyData}, DpAll K H vs ds → vs.length = ds.length
  | _, _, .nil => rfl
  | _, _, .cons _ t => by rw [List.length_cons, List.length_cons, dpAll_len t]
/-! every text in it is of a length that can be asked; no dict in it -/
mutual
def szD : PyData → Bool
  | .str x => decide (x.length ≤ sizeLine)
  | .list ds => szDs ds
  | .tuple ds => szDs ds
  | _ => true
def szDs : List PyData → Bool
  | [] => true
  | d :: ds => szD d && szDs ds
end
/-- from the items one by one -/
theorem dpAll_of : ∀ {xs : List V} {ds : List PyData}, xs.length = ds.length → (∀ (i : Nat) (x : V) (e : PyData), xs[i]? = some x → ds[i]? = some e → Dp K H x e) → DpAll K H xs ds
  | [], [], _, _ => .nil
  | x :: xs, d :: ds, hl, h => .cons (h 0 x d rfl rfl) (dpAll_of (by simpa using hl) fun i y e h1 h2 => h (i + 1) y e (by simpa using h1) (by simpa using h2))
theorem nodict_mem : ∀ {ds : List PyData} {d : PyData}, PyData.hasDictAll ds = false → d ∈ ds → d.hasDict = false
  | e :: ds, d, h, m => by
    have h' : e.hasDict = false ∧ PyData.hasDictAll ds = false := by simpa [PyData.hasDictAll] using h
    rcases List.mem_cons.mp m with z | z
    · rw [z]
      exact h'.1
    · exact nodict_mem h'.2 z
theorem Da.dp {v : V} {d : PyData} (h : Da H v d) : d.hasDict = false → Dp K H v d := by
  induction h with
  | non => exact fun _ => .non
  | bl b => exact fun _ => .bl b
  | int i => exact fun _ => .int i
  | str x _ => exact fun _ => .str x
  | lst h hl _ ih => exact fun n => .lst (SqL.of h) (dpAll_of hl fun i x e h1 h2 => ih i x e h1 h2 (nodict_mem (by simpa [PyData.hasDict] using n) (List.mem_of_getElem? h2)))
  | tup h hl _ ih => exact fun n => .tup (SqT.of h) (dpAll_of hl fun i x e h1 h2 => ih i x e h1 h2 (nodict_mem (by simpa [PyData.hasDict] using n) (List.mem_of_getElem? h2)))
  | dic h => exact fun n => absurd n (by simp [PyData.hasDict])
/-- the type's name -/
def tyD : PyData → String
  | .none => "NoneType"
  | .bool _ => "bool"
  | .int _ => "int"
  | .str _ => "str"
  | .list _ => "list"
  | .tuple _ => "tuple"
  | .dict _ => "dict"
theorem Da.ty {v : V} {d : PyData} (h : Da H v d) : TyX K H v (.type (tyD d)) := by
  cases h with
  | non => exact .base .non
  | bl b => exact .base (.bl b)
  | int i => exact .base (.int i)
  | str x _ => exact .base (.str x)
  | lst h _ _ => exact .base (.lst h)
  | tup h _ _ => exact .base (.tup h)
  | dic h => exact .base (.dK h)
theorem seq_of {a : Addr} {xs : List V} (h : H a = some (.lst xs) ∨ H a = some (.tup xs)) : SqL K H a xs ∨ SqT K H a xs := h.imp SqL.of SqT.of
/-- whether it is a list or a tuple, and its items -/
def rowD : PyData → Bool
  | .list _ => true
  | .tuple _ => true
  | _ => false
def itemsD : PyData → List PyData
  | .list ds => ds
  | .tuple ds => ds
  | _ => []
theorem Da.items {v : V} {d : PyData} (h : Da H v d) (r : rowD d = true) : ∃ a xs, v = .ref a ∧ (H a = some (.lst xs) ∨ H a = some (.tup xs)) ∧ xs.length = (itemsD d).length ∧
    ∀ (i : Nat) (x : V) (e : PyData), xs[i]? = some x → (itemsD d)[i]? = some e → Da H x e := by
  cases h with
  | lst h hl hi => exact ⟨_, _, rfl, .inl h, hl, hi⟩
  | tup h hl hi => exact ⟨_, _, rfl, .inr h, hl, hi⟩
  | _ => exact absurd r (by simp [rowD])
end
end Cry
/-! Where the defs stand in the text. -/
namespace Cry
open PySem
def topS (i : Nat) : Stmt := PySem.Challenge.pw_elsetold_k02_neighbours.main.body.getD i (.Pass ⟨0, 0, 0, 0⟩)
abbrev sIsWhole : Stmt := topS 7
abbrev sIsRow : Stmt := topS 8
abbrev sIsRowOf : Stmt := topS 9
abbrev sIsName : Stmt := topS 10
abbrev sRises : Stmt := topS 11
abbrev sIsWeb : Stmt := topS 16
abbrev sAreFolk : Stmt := topS 17
abbrev sAreWays : Stmt := topS 18
abbrev sIsWay : Stmt := topS 19
abbrev sAreWayBeats : Stmt := topS 20
abbrev sOwnWeb : Stmt := topS 21
abbrev sOwnPlace : Stmt := topS 22
abbrev sIsPlace : Stmt := topS 23
abbrev sBetween : Stmt := topS 24
abbrev sPerson : Stmt := topS 25
abbrev sPlaceOn : Stmt := topS 26
abbrev sNumbers : Stmt := topS 27
abbrev sBeside : Stmt := topS 28
abbrev sNeighbours : Stmt := topS 29
abbrev sBag : Stmt := topS 31
abbrev sStir : Stmt := topS 32
abbrev sDraw : Stmt := topS 33
abbrev sMixed : Stmt := topS 34
abbrev sNames : Stmt := topS 35
abbrev sBeats : Stmt := topS 36
abbrev sWeb : Stmt := topS 37
abbrev sDressed : Stmt := topS 38
abbrev sBesd : Stmt := topS 39
abbrev sStar : Stmt := topS 40
abbrev sSpots : Stmt := topS 41
abbrev sDue : Stmt := topS 42
abbrev sLaw : Stmt := topS 43
end Cry
/-! The plain kinds of things: what elsetold.forms promises of what is of form. -/
namespace Cry
open PySem PySem.Spec PyProof.Rows L2

/-- the built-in names that the text reads -/
structure Blt (mg : Str → Option Value) : Prop where
  isi : mg "isinstance" = none
  int : mg "int" = none
  bool : mg "bool" = none
  str : mg "str" = none
  list : mg "list" = none
  tuple : mg "tuple" = none
  len : mg "len" = none
  all : mg "all" = none
  zip : mg "zip" = none
section
variable {P : Program} {w : World} {K : PySem.W.Frag} {mg : Str → Option Value} {base : Heap}
theorem kD_int (d : PyData) : kitB (tyD d) "int" = some (decide (tyD d ∈ ["int", "bool"])) := by
  cases d
  · exact (show kitB "NoneType" "int" = some (decide ("NoneType" ∈ ["int", "bool"])) by decide +kernel)
  · exact (show kitB "bool" "int" = some (decide ("bool" ∈ ["int", "bool"])) by decide +kernel)
  · exact (show kitB "int" "int" = some (decide ("int" ∈ ["int", "bool"])) by decide +kernel)
  · exact (show kitB "str" "int" = some (decide ("str" ∈ ["int", "bool"])) by decide +kernel)
  · exact (show kitB "list" "int" = some (decide ("list" ∈ ["int", "bool"])) by decide +kernel)
  · exact (show kitB "tuple" "int" = some (decide ("tuple" ∈ ["int", "bool"])) by decide +kernel)
  · exact (show kitB "dict" "int" = some (decide ("dict" ∈ ["int", "bool"])) by decide +kernel)
theorem kD_bool (d : PyData) : kitB (tyD d) "bool" = some (decide (tyD d ∈ ["bool"])) := by
  cases d
  · exact (show kitB "NoneType" "bool" = some (decide ("NoneType" ∈ ["bool"])) by decide +kernel)
  · exact (show kitB "bool" "bool" = some (decide ("bool" ∈ ["bool"])) by decide +kernel)
  · exact (show kitB "int" "bool" = some (decide ("int" ∈ ["bool"])) by decide +kernel)
  · exact (show kitB "str" "bool" = some (decide ("str" ∈ ["bool"])) by decide +kernel)
  · exact (show kitB "list" "bool" = some (decide ("list" ∈ ["bool"])) by decide +kernel)
  · exact (show kitB "tuple" "bool" = some (decide ("tuple" ∈ ["bool"])) by decide +kernel)
  · exact (show kitB "dict" "bool" = some (decide ("dict" ∈ ["bool"])) by decide +kernel)
theorem kD_str (d : PyData) : kitB (tyD d) "str" = some (decide (tyD d ∈ ["str"])) := by
  cases d
  · exact (show kitB "NoneType" "str" = some (decide ("NoneType" ∈ ["str"])) by decide +kernel)
  · exact (show kitB "bool" "str" = some (decide ("bool" ∈ ["str"])) by decide +kernel)
  · exact (show kitB "int" "str" = some (decide ("int" ∈ ["str"])) by decide +kernel)
  · exact (show kitB "str" "str" = some (decide ("str" ∈ ["str"])) by decide +kernel)
  · exact (show kitB "list" "str" = some (decide ("list" ∈ ["str"])) by decide +kernel)
  · exact (show kitB "tuple" "str" = some (decide ("tuple" ∈ ["str"])) by decide +kernel)
  · exact (show kitB "dict" "str" = some (decide ("dict" ∈ ["str"])) by decide +kernel)
theorem kD_list (d : PyData) : kitB (tyD d) "list" = some (decide (tyD d ∈ ["list"])) := by
  cases d
  · exact (show kitB "NoneType" "list" = some (decide ("NoneType" ∈ ["list"])) by decide +kernel)
  · exact (show kitB "bool" "list" = some (decide ("bool" ∈ ["list"])) by decide +kernel)
  · exact (show kitB "int" "list" = some (decide ("int" ∈ ["list"])) by decide +kernel)
  · exact (show kitB "str" "list" = some (decide ("str" ∈ ["list"])) by decide +kernel)
  · exact (show kitB "list" "list" = some (decide ("list" ∈ ["list"])) by decide +kernel)
  · exact (show kitB "tuple" "list" = some (decide ("tuple" ∈ ["list"])) by decide +kernel)
  · exact (show kitB "dict" "list" = some (decide ("dict" ∈ ["list"])) by decide +kernel)
theorem kD_tuple (d : PyData) : kitB (tyD d) "tuple" = some (decide (tyD d ∈ ["tuple"])) := by
  cases d
  · exact (show kitB "NoneType" "tuple" = some (decide ("NoneType" ∈ ["tuple"])) by decide +kernel)
  · exact (show kitB "bool" "tuple" = some (decide ("bool" ∈ ["tuple"])) by decide +kernel)
  · exact (show kitB "int" "tuple" = some (decide ("int" ∈ ["tuple"])) by decide +kernel)
  · exact (show kitB "str" "tuple" = some (decide ("str" ∈ ["tuple"])) by decide +kernel)
  · exact (show kitB "list" "tuple" = some (decide ("list" ∈ ["tuple"])) by decide +kernel)
  · exact (show kitB "tuple" "tuple" = some (decide ("tuple" ∈ ["tuple"])) by decide +kernel)
  · exact (show kitB "dict" "tuple" = some (decide ("dict" ∈ ["tuple"])) by decide +kernel)
def wholeD : PyData → Bool
  | .int _ => true
  | _ => false
def nameOkS (x : Str) : Bool := decide (1 ≤ x.length) && decide (x.length ≤ 8) && x.cps.toList.all fun c => decide (c ∈ ("abcdefghijklmnopqrstuvwxyz" : Str).cps.toList)
def nameD : PyData → Bool
  | .str x => nameOkS x
  | _ => false
/-! ### is_whole -/
theorem scIsWhole : FnScope ["thing"] ["thing"] (defScope sIsWhole) := ⟨rfl, rfl, rfl, by decide +kernel, rfl, by decide +kernel, by decide +kernel⟩
/-- a def that judges one thing -/
def spJudge (K : PySem.W.Frag) (ask : PyData → Bool) : Sp := fun vs H Q _ => ∃ (v : V) (d : PyData), vs = [v] ∧ Da H v d ∧ ∀ H', Same H H' → Q (.bl (ask d)) H'
theorem ok_is_whole {f : Addr} {fd : FuncData} (F : Fun K "is_whole" "is_whole" sIsWhole f fd) (B : Blt mg) : FnOk P w K mg base CX0 1 f fd ["thing"] (spJudge K wholeD) := by
  refine F.ok scIsWhole (fun vs H Q E h => ?_) (fun cdv A outer s H vs Q E hr h => ?_)
  · obtain ⟨v, d, rfl, _⟩ := h
    rfl
  · obtain ⟨v, d, rfl, hd, q⟩ := h
    refine ⟨_, pss_one (ps_ret (pe_and (pe_callB call_isi (by rfl) B.isi (by decide +kernel) (pa_cons (pv 0) (pa_cons (pe_bltn (v := .ty "int") (u := .type "int") (by rfl) B.int (by decide +kernel) rfl) pa_nil)))
      (pe_one (pe_not (pe_callB call_isi (by rfl) B.isi (by decide +kernel) (pa_cons (pv 0) (pa_cons (pe_bltn (v := .ty "bool") (u := .type "bool") (by rfl) B.bool (by decide +kernel) rfl) pa_nil))))))), ?_⟩
    have two : ∀ (b1 b2 : Bool), kitB (tyD d) "int" = some b1 → kitB (tyD d) "bool" = some b2 → (b1 && !b2) = wholeD d → tAndV
        (tCB (rIsi K) (tCons (tVar 0) (tCons (tC (.ty "int")) tNil))) (tNotV (tCB (rIsi K) (tCons (tVar 0) (tCons (tC (.ty "bool")) tNil)))) (start ["thing"] [v]) H Q := by
      intro b1 b2 h1 h2 e
      refine ⟨_, rfl, _, _, _, _, _, rfl, .ty "int", hd.ty, kit_ty h1, _, rfl, ?_⟩
      cases b1 with
      | true =>
        refine iteT ⟨_, rfl, _, _, _, _, _, rfl, .ty "bool", hd.ty, kit_ty h2, _, rfl, ?_⟩
        have := q H (Same.refl H)
        rw [← e] at this
        exact this
      | false =>
        refine iteF ?_
        have := q H (Same.refl H)
        rw [← e] at this
        exact this
    exact two _ _ (kD_int d) (kD_bool d) (by cases d <;> rfl)
/-! ### is_row -/
theorem scIsRow : FnScope ["thing"] ["thing"] (defScope sIsRow) := ⟨rfl, rfl, rfl, by decide +kernel, rfl, by decide +kernel, by decide +kernel⟩
theorem ok_is_row {f : Addr} {fd : FuncData} (F : Fun K "is_row" "is_row" sIsRow f fd) (B : Blt mg) : FnOk P w K mg base CX0 1 f fd ["thing"] (spJudge K rowD) := by
  refine F.ok scIsRow (fun vs H Q E h => ?_) (fun cdv A outer s H vs Q E hr h => ?_)
  · obtain ⟨v, d, rfl, _⟩ := h
    rfl
  · obtain ⟨v, d, rfl, hd, q⟩ := h
    refine ⟨_, pss_one (ps_ret (pe_callB call_isiT (by rfl) B.isi (by decide +kernel) (pa_cons (pv 0) (pa_cons (pe_tup (pa_cons (pe_bltn (v := .ty "list") (u := .type "list") (by rfl) B.list (by decide +kernel) rfl)
      (pa_cons (pe_bltn (v := .ty "tuple") (u := .type "tuple") (by rfl) B.tuple (by decide +kernel) rfl) pa_nil))) pa_nil)))), ?_⟩
    refine ⟨_, rfl, by decide, fun p np => ?_⟩
    have s1 : Same H (upd H p (.tup [.ty "list", .ty "tuple"])) := same_new np
    have two : ∀ b1 b2 : Bool, kitB (tyD d) "list" = some b1 → kitB (tyD d) "tuple" = some b2 → PySem.W.kitAny K (.type (tyD d)) [.type "list", .type "tuple"] = some (b1 || b2) := by
      intro b1 b2 h1 h2
      refine kitAny_cons (kit_ty h1) (fun e => ?_) (fun e => by rw [e]; rfl)
      refine kitAny_cons (kit_ty h2) (fun e2 => ?_) (fun e2 => by rw [e, e2]; rfl)
      rw [e, e2]
      exact kitAny_nil
    have fin : PySem.W.kitAny K (.type (tyD d)) [.type "list", .type "tuple"] = some (rowD d) := by
      rw [two _ _ (kD_list d) (kD_tuple d)]
      cases d <;> rfl
    exact ⟨v, p, _, _, _, _, rfl, upd_same, .cons (.ty "list") (.cons (.ty "tuple") .nil), (hd.on s1).ty, fin, q _ s1⟩
/-! ### is_row_of -/
theorem scIsRowOf : FnScope ["many", "thing"] ["many", "thing"] (defScope sIsRowOf) := ⟨rfl, rfl, rfl, by decide +kernel, rfl, by decide +kernel, by decide +kernel⟩
def rowOfD (n : Nat) (d : PyData) : Bool := rowD d && decide ((itemsD d).length = n)
def spIsRowOf (K : PySem.W.Frag) : Sp := fun vs H Q _ => ∃ (n : Nat) (v : V) (d : PyData), vs = [.int (n : Int), v] ∧ Da H v d ∧ ∀ H', Same H H' → Q (.bl (rowOfD n d)) H'
/-- a def of the text, as it is called -/
structure Def (K : PySem.W.Frag) (mg : Str → Option Value) (x : Str) (f : Addr) (fd : FuncData) (ps : List Str) : Prop where
  at_ : mg x = some (.ref f)
  kp : PySem.W.keepIn K (.ref f) = true
  b : Binds K fd ps []
theorem ok_is_row_of {f f1 : Addr} {fd fd1 : FuncData} (F : Fun K "is_row_of" "is_row_of" sIsRowOf f fd) (B : Blt mg) (D1 : Def K mg "is_row" f1 fd1 ["thing"]) (G1 : FnOk P w K mg base CX0 1 f1 fd1 ["thing"] (spJudge K rowD)) :
    FnOk P w K mg base CX0 2 f fd ["many", "thing"] (spIsRowOf K) := by
  refine F.ok scIsRowOf (fun vs H Q E h => ?_) (fun cdv A outer s H vs Q E hr h => ?_)
  · obtain ⟨n, v, d, rfl, _⟩ := h
    rfl
  · obtain ⟨n, v, d, rfl, hd, q⟩ := h
    refine ⟨_, pss_one (ps_ret (pe_and (pe_call G1 hr (by rfl) D1.at_ D1.kp D1.b .nil pass0 (pa_cons (pv 1) pa_nil)) (pe_one (pe_cmpR op_eq (pe_callB call_len_seq (by rfl) B.len (by decide +kernel) (pa_cons (pv 1) pa_nil)) (pv 0) (nomark _))))), ?_⟩
    refine ⟨_, rfl, v, d, rfl, hd, fun H1 s1 => ⟨_, rfl, ?_⟩⟩
    cases r : rowD d with
    | false =>
      refine iteF ?_
      have := q H1 s1
      unfold rowOfD at this
      rw [r] at this
      exact this
    | true =>
      refine iteT ?_
      obtain ⟨a, xs, rfl, hs, hl, _⟩ := (hd.on s1).items r
      refine ⟨_, rfl, a, xs, rfl, seq_of hs, _, rfl, rfl, ?_⟩
      have := q H1 s1
      unfold rowOfD at this
      rw [r, ← hl] at this
      have e : decide (V.int ((xs.length : Nat) : Int) = V.int (n : Int)) = (true && decide (xs.length = n)) := by
        rw [Bool.true_and]
        by_cases h : xs.length = n
        · rw [decide_eq_true h, h]
          exact decide_eq_true rfl
        · rw [decide_eq_false h]
          refine decide_eq_false fun z => h ?_
          have := V.int.inj z
          omega
      rw [← e] at this
      exact this
/-! ### is_name -/
theorem map_range_get {α β : Type} (xs : List α) (f : α → β) (d : α) : ((List.range xs.length).map fun i => f ((xs[i]?).getD d)) = xs.map f := by
  apply List.ext_getElem?
  intro i
  rw [List.getElem?_map, List.getElem?_map]
  by_cases h : i < xs.length
  · rw [List.getElem?_range h, List.getElem?_eq_getElem h]
    simp [h]
  · rw [List.getElem?_eq_none (by simp; omega), List.getElem?_eq_none (by omega)]
    rfl
theorem all_cps (xs : Array Nat) (p : Nat → Bool) : ((List.range xs.size).map fun i => p ((xs[i]?).getD 0)).all id = xs.toList.all p := by
  have e := map_range_get xs.toList p 0
  simp only [Array.length_toList, Array.getElem?_toList] at e
  rw [e, List.all_map]
  rfl
theorem scIsName : FnScope ["thing", "letter"] ["thing"] (defScope sIsName) := ⟨rfl, rfl, rfl, by decide +kernel, rfl, by decide +kernel, by decide +kernel⟩
abbrev abc : Str := "abcdefghijklmnopqrstuvwxyz"
theorem ok_is_name {f : Addr} {fd : FuncData} {tk tk2 : Tok} (F : Fun K "is_name" "is_name" sIsName f fd) (B : Blt mg) (mL : mg "LETTERS" = some (.str abc tk)) (mM : mg "MOST_LETTERS" = some (.int 8 tk2)) : FnOk P w K mg base CX0 1 f fd ["thing"] (spJudge K nameD) := by
  refine F.ok scIsName (fun vs H Q E h => ?_) (fun cdv A outer s H vs Q E hr h => ?_)
  · obtain ⟨v, d, rfl, _⟩ := h
    rfl
  · obtain ⟨v, d, rfl, hd, q⟩ := h
    refine ⟨_, pss_cons (ps_if (PW.pt (pw_or (pt_not (pt_val (pe_callB call_isi (by rfl) B.isi (by decide +kernel) (pa_cons (pv 0) (pa_cons (pe_bltn (v := .ty "str") (u := .type "str") (by rfl) B.str (by decide +kernel) rfl) pa_nil)))))
        (pw_or1 (pt_not (pt_chain op_le op_le pe_int (pe_callB call_len_str (by rfl) B.len (by decide +kernel) (pa_cons (pv 0) pa_nil)) (pe_glob (v := .int 8) rfl mM ⟨_, rfl⟩)))))) (pss_one (ps_ret pe_bl)) pss_nil)
      (pss_one (ps_ret (pe_callB (cr_all rfl) (by rfl) B.all (by decide +kernel) (pa_cons (pe_lc (own := [("letter", 1)]) (g := gName 1) (tt := tYes) rfl scIsName.nd (pi_str (pv 0)) (blkOk_by (N := ["thing", "letter"]) (sc := defScope sIsName) (by decide +kernel))
        (fun _ _ _ _ _ => pg_name (i := 1) scIsName.nd rfl (Or.inl rfl)) (fun _ _ _ _ _ => pts_nil) (fun _ _ _ _ _ => pe_cmpR op_in_sign (pv 1) (pe_glob (v := .str abc) rfl mL ⟨_, rfl⟩) rfl)) pa_nil)))), ?_⟩
    refine ⟨v, rfl, _, _, _, _, _, rfl, .ty "str", hd.ty, kit_ty (kD_str d), _, rfl, ?_⟩
    cases d with
    | str x =>
      obtain ⟨rfl, hz⟩ : v = .str x ∧ x.length ≤ sizeLine := by
        cases hd with
        | str _ hz => exact ⟨rfl, hz⟩
      refine iteF ?_
      refine ⟨_, rfl, x, rfl, hz, _, _, rfl, rfl, _, rfl, ?_⟩
      by_cases h1 : 1 ≤ x.length
      · rw [decide_eq_true (show (1 : Int) ≤ ((x.length : Nat) : Int) by omega)]
        refine iteT ⟨_, _, rfl, rfl, _, rfl, ?_⟩
        by_cases h2 : x.length ≤ 8
        · rw [decide_eq_true (show ((x.length : Nat) : Int) ≤ 8 by omega)]
          refine iteF ?_
          refine ⟨_, rfl, _, rfl, fun D nD => ?_⟩
          refine lc_pure (walk_str (z := x)) (fun i => .bl (decide ((x.cps[i]?).getD 0 ∈ abc.cps.toList))) (Nat.le_trans (show x.cps.size ≤ 8 from h2) (by decide)) nD (fun _ _ => True.intro) (fun i H x H' y => by rw [y.1]; exact Same.refl _) (fun i y H2 H3 Z hi s2 hy k => ?_) fun H2 s2 h2' => ?_
          · obtain ⟨rfl, c, ec, rfl⟩ := hy
            refine ⟨rfl, _, rfl, _, _, rfl, rfl, ?_⟩
            have := k _ (Same.refl _)
            rw [ec] at this
            exact this
          · refine ⟨D, (List.range x.cps.size).map fun i => decide ((x.cps[i]?).getD 0 ∈ abc.cps.toList), rfl, ?_, ?_⟩
            · rw [List.map_map]
              exact SqL.of h2'
            · have e : ((List.range x.cps.size).map fun i => decide ((x.cps[i]?).getD 0 ∈ abc.cps.toList)).all id = nameD (.str x) := by
                show _ = (decide (1 ≤ x.length) && decide (x.length ≤ 8) && x.cps.toList.all fun c => decide (c ∈ abc.cps.toList))
                rw [decide_eq_true h1, decide_eq_true h2, Bool.true_and, Bool.true_and]
                exact all_cps x.cps fun c => decide (c ∈ abc.cps.toList)
              rw [e]
              exact q H2 s2
        · rw [decide_eq_false (show ¬ ((x.length : Nat) : Int) ≤ 8 by omega)]
          refine iteT ?_
          have := q H (Same.refl H)
          have e : nameD (.str x) = false := by
            show (decide (1 ≤ x.length) && decide (x.length ≤ 8) && _) = false
            rw [decide_eq_false h2, Bool.and_false, Bool.false_and]
          rw [e] at this
          exact this
      · rw [decide_eq_false (show ¬ (1 : Int) ≤ ((x.length : Nat) : Int) by omega)]
        refine iteF ⟨_, rfl, iteT ?_⟩
        have := q H (Same.refl H)
        have e : nameD (.str x) = false := by
          show (decide (1 ≤ x.length) && decide (x.length ≤ 8) && _) = false
          rw [decide_eq_false h1, Bool.false_and, Bool.false_and]
        rw [e] at this
        exact this
    | _ => exact iteT (iteT (q H (Same.refl H)))
/-! ### rises -/
theorem walk_zipT {a b : Addr} {xs ys : List V} {n : Nat} (hn : n = min xs.length ys.length) : Walk (RZ.ItzT K a b) n (fun H => SqT K H a xs ∧ SqT K H b ys) (YPair (fun i => xs[i]?) (fun i => ys[i]?)) where
  goes := fun i _ hi q => ⟨xs, ys, xs[i]'(by omega), ys[i]'(by omega), q.1, q.2, by simp [show i < xs.length by omega], by simp [show i < ys.length by omega]⟩
  stops := fun _ q => ⟨xs, ys, q.1, q.2, by omega⟩
  yields := fun i H v H' _ q y => by
    obtain ⟨T, x, z, h1, h2, h3, h4, h5⟩ := y
    exact ⟨T, x, z, h1, h2, h3, h4 xs q.1, h5 ys q.2⟩
/-- each is less than the next one -/
def risingD : List PyData → Bool
  | d :: e :: r => PySem.W.dataLt d e && risingD (e :: r)
  | _ => true
theorem rising_range : ∀ (ds : List PyData) (f : Nat → Bool), (∀ (i : Nat) d e, ds[i]? = some d → ds[i + 1]? = some e → f i = PySem.W.dataLt d e) → ((List.range (ds.length - 1)).map f).all id = risingD ds
  | [], _, _ => rfl
  | [_], _, _ => rfl
  | d :: e :: r, f, h => by
    have ih := rising_range (e :: r) (fun i => f (i + 1)) fun i a b h1 h2 => h (i + 1) a b (by simpa using h1) (by simpa using h2)
    have e1 : (d :: e :: r).length - 1 = (e :: r).length - 1 + 1 := by simp
    rw [e1, List.range_succ_eq_map, List.map_cons, List.map_map, List.all_cons]
    have e2 : ((List.range ((e :: r).length - 1)).map (f ∘ Nat.succ)) = ((List.range ((e :: r).length - 1)).map fun i => f (i + 1)) := rfl
    rw [e2, ih]
    show (f 0 && risingD (e :: r)) = (PySem.W.dataLt d e && risingD (e :: r))
    rw [h 0 d e rfl rfl]
theorem cut_tail (xs : List V) : cutV xs (some 1) none = xs.drop 1 := by
  unfold cutV
  rw [show HT.sIx xs.length 0 (some 1) = min 1 xs.length from HT.sIx_nat xs.length 0 1, HT.sIx_none]
  cases xs with
  | nil => rfl
  | cons x r =>
    have e : min 1 (x :: r).length = 1 := by
      rw [List.length_cons]
      omega
    rw [e]
    show List.take ((x :: r).length - 1) r = r
    rw [List.length_cons, Nat.add_sub_cancel]
    exact List.take_length
theorem scRises : FnScope ["things", "low", "high"] ["things"] (defScope sRises) := ⟨rfl, rfl, rfl, by decide +kernel, rfl, by decide +kernel, by decide +kernel⟩
def spRises (K : PySem.W.Frag) : Sp := fun vs H Q _ => ∃ (a : Addr) (xs : List V) (ds : List PyData), vs = [.ref a] ∧ (SqL K H a xs ∨ (SqT K H a xs ∧ xs ≠ [])) ∧ DpAll K H xs ds ∧ xs.length ≤ sizeLine ∧
  (∀ d ∈ ds, ∀ e ∈ ds, PySem.W.alike d e = true) ∧ (∀ d ∈ ds, d ≠ .none ∧ d.depth ≤ 20) ∧ ∀ H', Same H H' → Q (.bl (risingD ds)) H'
theorem dpAll_get {H : Hp} : ∀ {vs : List V} {ds : List PyData} {i : Nat} {v : V}, DpAll K H vs ds → vs[i]? = some v → ∃ d, ds[i]? = some d ∧ Dp K H v d
  | _, _, i, _, .nil, e => by simp at e
  | _, _, 0, v, .cons h _, e => by
    simp at e
    subst e
    exact ⟨_, rfl, h⟩
  | _, _, i + 1, v, .cons _ t, e => by
    obtain ⟨d, h1, h2⟩ := dpAll_get (i := i) t (by simpa using e)
    exact ⟨d, by simpa using h1, h2⟩
theorem ok_rises {f : Addr} {fd : FuncData} (F : Fun K "rises" "rises" sRises f fd) (B : Blt mg) : FnOk P w K mg base CX0 1 f fd ["things"] (spRises K) := by
  refine F.ok scRises (fun vs H Q E h => ?_) (fun cdv A outer s H vs Q E hr h => ?_)
  · obtain ⟨a, xs, ds, rfl, _⟩ := h
    rfl
  · obtain ⟨a, xs, ds, rfl, hs, hd, hz, al, nn, q⟩ := h
    have hl := dpAll_len hd
    refine ⟨_, pss_one (ps_ret (pe_callB (cr_all rfl) (by rfl) B.all (by decide +kernel) (pa_cons (pe_lc (own := [("low", 1), ("high", 2)]) (g := gTup K 2 (gCons (gName 1) (gCons (gName 2) gNil))) (tt := tYes) (te := tOp (rLtD K) (tVar 1) (tVar 2)) rfl scRises.nd
      (RZ.pi_zipA (by rfl) B.zip (pa_cons (pv 0) (pa_cons (pe_slice (sl_list.or sl_tup) (pv 0) (po_some pe_int) po_none) pa_nil)))
      (blkOk_by (N := ["things", "low", "high"]) (sc := defScope sRises) (by decide +kernel))
      (fun _ _ _ _ _ => pg_tup rfl (pgs_cons (pg_name (i := 1) scRises.nd rfl (Or.inl rfl)) (pgs_cons (pg_name (i := 2) scRises.nd rfl (Or.inl rfl)) pgs_nil))) (fun _ _ _ _ _ => pts_nil)
      (fun _ _ _ _ _ => pe_cmpR (r := rLtD K) (op_ltD hr.units) (pv 1) (pv 2) (nomark _))) pa_nil))), ?_⟩
    -- the pairs of neighbours, by lists or by tuples
    have go : ∀ (H1 : Hp) (J : It) (G : Hp → Prop) (D : Addr), Same H H1 → Walk J (xs.length - 1) G (YPair (fun i => xs[i]?) (fun i => (xs.drop 1)[i]?)) → (∀ H2, Same H1 H2 → G H2) → H1 D = none →
        ∃ W : Nat → Nat → Hp → Prop, (∃ m, W 0 m (upd H1 D (.lst []))) ∧ ∀ i m H, W i m H → (J.stop i H ∧ rAll K [.ref D] H Q) ∨
          (J.go i H ∧ ∃ Nx : Hp → Prop, (∀ H', Nx H' → ∃ m', m' < m ∧ W (i + 1) m' H') ∧ ∀ x H', J.yld i H x H' → gTup K 2 (gCons (gName 1) (gCons (gName 2) gNil)) x (wipe (start ["things", "low", "high"] [.ref a]) [1, 2]) H' fun σ2 H2 =>
            wipe σ2 [1, 2] = wipe (start ["things", "low", "high"] [.ref a]) [1, 2] ∧ tYes σ2 H2 fun b H3 => if b = true then tOp (rLtD K) (tVar 1) (tVar 2) σ2 H3 fun y H4 => ∃ acc, H4 D = some (.lst acc) ∧ acc.length < sizeLine ∧ Nx (upd H4 D (.lst (acc ++ [y]))) else Nx H3) := by
      intro H1 J G D s1 wk hG nD
      refine lc_pure wk (fun i => .bl (PySem.W.dataLt ((ds[i]?).getD .none) ((ds[i + 1]?).getD .none))) (by omega) nD hG yPair_same (fun i y H2 H3 Z hi s2 hy k => ?_) fun H2 s2 h2 => ?_
      · obtain ⟨T, u, v, rfl, nT, rfl, eu, ev⟩ := hy
        dsimp only at eu ev
        rw [List.getElem?_drop, Nat.add_comm 1 i] at ev
        have s3 : Same H (upd H2 T (.tup [u, v])) := (s1.trans s2).trans (same_new nT)
        obtain ⟨d, ed, hd1⟩ := dpAll_get hd eu
        obtain ⟨e, ee, hd2⟩ := dpAll_get hd ev
        refine ⟨T, [u, v], rfl, SqT.of upd_same, rfl, u, [v], rfl, v, [], rfl, rfl, rfl, ?_⟩
        refine ⟨u, rfl, v, rfl, d, e, Dp.on s3 hd1, Dp.on s3 hd2, al d (List.mem_of_getElem? ed) e (List.mem_of_getElem? ee), (nn d (List.mem_of_getElem? ed)).1, (nn d (List.mem_of_getElem? ed)).2, ?_⟩
        have := k _ (Same.refl _)
        rw [ed, ee] at this
        exact this
      · refine ⟨D, (List.range (xs.length - 1)).map fun i => PySem.W.dataLt ((ds[i]?).getD .none) ((ds[i + 1]?).getD .none), rfl, ?_, ?_⟩
        · rw [List.map_map]
          exact SqL.of h2
        · rw [hl, rising_range ds _ fun i d e h1 h2 => by rw [h1, h2]; rfl]
          exact q H2 (s1.trans s2)
    rcases hs with hs | ⟨hs, ne⟩
    · refine ⟨_, rfl, _, rfl, 1, rfl, .inl ⟨a, xs, rfl, hs, fun p np => ?_⟩⟩
      rw [cut_tail]
      have s1 : Same H (upd H p (.lst (xs.drop 1))) := same_new np
      refine ⟨a, p, xs, xs.drop 1, rfl, .inl ⟨s1.seq hs, SqL.of upd_same, fun D nD => ?_⟩⟩
      exact go _ _ _ D s1 (walk_zip (xs := xs) (ys := xs.drop 1) (by simp)) (fun H2 s2 => ⟨s2.seq (s1.seq hs), s2.seq (SqL.of upd_same)⟩) nD
    · refine ⟨_, rfl, _, rfl, 1, rfl, .inr ⟨a, xs, rfl, hs, ?_, fun p np => ?_⟩⟩
      · intro z
        have := z.1
        rw [show HT.sIx xs.length 0 (some 1) = min 1 xs.length from HT.sIx_nat xs.length 0 1] at this
        cases xs with
        | nil => exact ne rfl
        | cons x r =>
          rw [List.length_cons] at this
          omega
      · rw [cut_tail]
        have s1 : Same H (upd H p (.tup (xs.drop 1))) := same_new np
        refine ⟨a, p, xs, xs.drop 1, rfl, .inr ⟨sqT_same s1 hs, SqT.of upd_same, fun D nD => ?_⟩⟩
        exact go _ _ _ D s1 (walk_zipT (xs := xs) (ys := xs.drop 1) (by simp)) (fun H2 s2 => ⟨sqT_same s2 (sqT_same s1 hs), sqT_same s2 (SqT.of upd_same)⟩) nD
end
end Cry
/-! What elsetold.webs judges of anything: is_web and what it asks. -/
namespace Cry
open PySem PySem.Spec PyProof.Rows L2
section
variable {P : Program} {w : World} {K : PySem.W.Frag} {mg : Str → Option Value} {base : Heap}
/-! ### are_way_beats -/
theorem scAreWayBeats : FnScope ["thing"] ["thing"] (defScope sAreWayBeats) := ⟨rfl, rfl, rfl, by decide +kernel, rfl, by decide +kernel, by decide +kernel⟩
def beatsD : PyData → Bool
  | .int n => decide (1 ≤ n) && decide (n ≤ 1000000000000)
  | _ => false
theorem ok_are_way_beats {f f1 : Addr} {fd fd1 : FuncData} {tk : Tok} (F : Fun K "are_way_beats" "are_way_beats" sAreWayBeats f fd) (D1 : Def K mg "is_whole" f1 fd1 ["thing"]) (G1 : FnOk P w K mg base CX0 1 f1 fd1 ["thing"] (spJudge K wholeD))
    (mB : mg "MOST_BEATS" = some (.int 1000000000000 tk)) : FnOk P w K mg base CX0 2 f fd ["thing"] (spJudge K beatsD) := by
  refine F.ok scAreWayBeats (fun vs H Q E h => ?_) (fun cdv A outer s H vs Q E hr h => ?_)
  · obtain ⟨v, d, rfl, _⟩ := h
    rfl
  · obtain ⟨v, d, rfl, hd, q⟩ := h
    refine ⟨_, pss_one (ps_ret (pe_and (pe_call G1 hr (by rfl) D1.at_ D1.kp D1.b .nil pass0 (pa_cons (pv 0) pa_nil)) (pe_one (pe_chain op_le op_le pe_int (pv 0) (pe_glob (v := .int 1000000000000) rfl mB ⟨_, rfl⟩))))), ?_⟩
    refine ⟨_, rfl, v, d, rfl, hd, fun H1 s1 => ⟨_, rfl, ?_⟩⟩
    cases hd with
    | int n =>
      refine iteT ⟨_, rfl, _, _, rfl, rfl, _, rfl, ?_⟩
      have fin := q H1 s1
      by_cases h1 : 1 ≤ n
      · rw [decide_eq_true h1]
        refine iteT ⟨_, _, rfl, rfl, ?_⟩
        have e : beatsD (.int n) = decide (n ≤ 1000000000000) := by
          show (decide (1 ≤ n) && _) = _
          rw [decide_eq_true h1, Bool.true_and]
        rw [e] at fin
        exact fin
      · rw [decide_eq_false h1]
        refine iteF ?_
        have e : beatsD (.int n) = false := by
          show (decide (1 ≤ n) && _) = _
          rw [decide_eq_false h1, Bool.false_and]
        rw [e] at fin
        exact fin
    | _ => exact iteF (q H1 s1)
/-! ### is_way -/
theorem scIsWay : FnScope ["folk", "thing", "one", "other", "beats"] ["folk", "thing"] (defScope sIsWay) := ⟨rfl, rfl, rfl, by decide +kernel, rfl, by decide +kernel, by decide +kernel⟩
/-- one of the names -/
def inNames (x : Str) (names : List Str) : Bool := inV (.str x) (names.map V.str)
def ltS (x y : Str) : Bool := decide (x.cps.toList < y.cps.toList)
def wayIn (names : List Str) : PyData → PyData → PyData → Bool
  | .str x, .str y, b => nameOkS x && nameOkS y && beatsD b && (inNames x names && inNames y names && ltS x y)
  | _, _, _ => false
def wayD (names : List Str) (d : PyData) : Bool :=
  rowOfD 3 d && match itemsD d with
    | [a, b, c] => wayIn names a b c
    | _ => false
def spIsWay (K : PySem.W.Frag) : Sp := fun vs H Q _ => ∃ (a : Addr) (names : List Str) (v : V) (d : PyData), vs = [.ref a, v] ∧ (SqL K H a (names.map V.str) ∨ SqT K H a (names.map V.str)) ∧ Da H v d ∧ ∀ H', Same H H' → Q (.bl (wayD names d)) H'
theorem flat_names (names : List Str) : (names.map V.str).all flatV = true := by
  rw [List.all_map, List.all_eq_true]
  intro x _
  rfl
theorem seq_same {H H' : Hp} {a : Addr} {xs : List V} (s : Same H H') (h : SqL K H a xs ∨ SqT K H a xs) : SqL K H' a xs ∨ SqT K H' a xs := h.imp s.seq (sqT_same s)
theorem nameD_str {H : Hp} {v : V} {d : PyData} (h : Da H v d) (n : nameD d = true) : ∃ x, v = .str x ∧ d = .str x ∧ nameOkS x = true ∧ x.length ≤ sizeLine := by
  cases h with
  | str x hz => exact ⟨x, rfl, rfl, n, hz⟩
  | _ => exact absurd n (by simp [nameD])
/-- the defs that is_web asks, as they are called -/
structure FormDefs (P : Program) (w : World) (K : PySem.W.Frag) (mg : Str → Option Value) (base : Heap) where
  {f1 f2 f3 f4 : Addr}
  {fd1 fd2 fd3 fd4 : FuncData}
  D1 : Def K mg "is_row_of" f1 fd1 ["many", "thing"]
  G1 : FnOk P w K mg base CX0 2 f1 fd1 ["many", "thing"] (spIsRowOf K)
  D2 : Def K mg "is_name" f2 fd2 ["thing"]
  G2 : FnOk P w K mg base CX0 1 f2 fd2 ["thing"] (spJudge K nameD)
  D3 : Def K mg "are_way_beats" f3 fd3 ["thing"]
  G3 : FnOk P w K mg base CX0 2 f3 fd3 ["thing"] (spJudge K beatsD)
  D4 : Def K mg "is_row" f4 fd4 ["thing"]
  G4 : FnOk P w K mg base CX0 1 f4 fd4 ["thing"] (spJudge K rowD)
theorem ok_is_way {f : Addr} {fd : FuncData} (F : Fun K "is_way" "is_way" sIsWay f fd) (T : FormDefs P w K mg base) : FnOk P w K mg base CX0 3 f fd ["folk", "thing"] (spIsWay K) := by
  refine F.ok scIsWay (fun vs H Q E h => ?_) (fun cdv A outer s H vs Q E hr h => ?_)
  · obtain ⟨a, names, v, d, rfl, _⟩ := h
    rfl
  · obtain ⟨a, names, v, d, rfl, hf, hd, q⟩ := h
    refine ⟨_, pss_cons (ps_if (pt_not (pt_val (pe_call T.G1 hr (by rfl) T.D1.at_ T.D1.kp T.D1.b .nil pass0 (pa_cons pe_int (pa_cons (pv 1) pa_nil))))) (pss_one (ps_ret pe_bl)) pss_nil)
      (pss_cons (ps_asg (pv 1) (pg_row rfl (pgs_cons (pg_name (i := 2) scIsWay.nd rfl (Or.inl rfl)) (pgs_cons (pg_name (i := 3) scIsWay.nd rfl (Or.inl rfl)) (pgs_cons (pg_name (i := 4) scIsWay.nd rfl (Or.inl rfl)) pgs_nil)))))
      (pss_cons (ps_if (pt_not (PW.pt (pw_and (pt_val (pe_call T.G2 (hr.mono (by decide)) (by rfl) T.D2.at_ T.D2.kp T.D2.b .nil pass0 (pa_cons (pv 2) pa_nil))) (pw_and (pt_val (pe_call T.G2 (hr.mono (by decide)) (by rfl) T.D2.at_ T.D2.kp T.D2.b .nil pass0 (pa_cons (pv 3) pa_nil)))
          (pw_and1 (pt_val (pe_call T.G3 hr (by rfl) T.D3.at_ T.D3.kp T.D3.b .nil pass0 (pa_cons (pv 4) pa_nil)))))))) (pss_one (ps_ret pe_bl)) pss_nil)
      (pss_one (ps_ret (pe_and (pe_cmpR op_in_seq (pv 2) (pv 0) rfl) (pe_and (pe_cmpR op_in_seq (pv 3) (pv 0) rfl) (pe_one (pe_cmpR op_lt_str (pv 2) (pv 3) (nomark _))))))))), ?_⟩
    -- is_row_of(3, thing)
    refine ⟨_, rfl, 3, v, d, rfl, hd, fun H1 s1 => ⟨_, rfl, ?_⟩⟩
    cases r3 : rowOfD 3 d with
    | false =>
      refine iteT ?_
      have := q H1 s1
      unfold wayD at this
      rw [r3] at this
      exact this
    | true =>
      refine iteF ?_
      have r3' : rowD d = true ∧ (itemsD d).length = 3 := by simpa [rowOfD] using r3
      obtain ⟨b, xs, rfl, hs, hl, hi⟩ := (hd.on s1).items r3'.1
      obtain ⟨x1, x2, x3, rfl⟩ : ∃ x1 x2 x3, xs = [x1, x2, x3] := by
        rw [r3'.2] at hl
        match xs, hl with
        | [x1, x2, x3], _ => exact ⟨x1, x2, x3, rfl⟩
      obtain ⟨d1, d2, d3, ed⟩ : ∃ d1 d2 d3, itemsD d = [d1, d2, d3] := by
        have h3 := r3'.2
        match itemsD d, h3 with
        | [d1, d2, d3], _ => exact ⟨d1, d2, d3, rfl⟩
      rw [ed] at hi
      have e1 := hi 0 x1 d1 rfl rfl
      have e2 := hi 1 x2 d2 rfl rfl
      have e3 := hi 2 x3 d3 rfl rfl
      have ew : wayD names d = wayIn names d1 d2 d3 := by
        unfold wayD
        rw [r3, ed, Bool.true_and]
      rw [ew] at q
      -- one, other, beats = thing
      refine ⟨_, rfl, b, _, rfl, seq_of hs, rfl, _, _, rfl, _, _, rfl, _, _, rfl, rfl, ?_⟩
      -- is_name(one) and is_name(other) and are_way_beats(beats)
      refine ⟨_, rfl, x1, d1, rfl, e1, fun H2 s2 => ⟨_, rfl, ?_⟩⟩
      have s12 := s1.trans s2
      have no : ∀ H', Same H H' → wayIn names d1 d2 d3 = false → Q (.bl false) H' := fun H' s' e => by
        have := q H' s'
        rw [e] at this
        exact this
      cases n1 : nameD d1 with
      | false =>
        refine iteF (iteT (no H2 s12 ?_))
        cases d1 <;> first | rfl | skip
        cases d2 <;> first | rfl | skip
        show (nameOkS _ && _ && _ && _) = false
        rw [show nameOkS _ = false from n1]
        rfl
      | true =>
        obtain ⟨x, rfl, rfl, ox, _⟩ := nameD_str e1 n1
        refine iteT ⟨_, rfl, x2, d2, rfl, e2.on s2, fun H3 s3 => ⟨_, rfl, ?_⟩⟩
        have s13 := s12.trans s3
        cases n2 : nameD d2 with
        | false =>
          refine iteF (iteT (no H3 s13 ?_))
          cases d2 <;> first | rfl | skip
          show (nameOkS _ && nameOkS _ && _ && _) = false
          rw [show nameOkS _ = false from n2, Bool.and_false, Bool.false_and, Bool.false_and]
        | true =>
          obtain ⟨y, rfl, rfl, oy, _⟩ := nameD_str e2 n2
          refine iteT ⟨_, rfl, x3, d3, rfl, (e3.on s2).on s3, fun H4 s4 => ⟨_, rfl, ?_⟩⟩
          have s14 := s13.trans s4
          cases n3 : beatsD d3 with
          | false =>
            refine iteT (no H4 s14 ?_)
            show (nameOkS x && nameOkS y && beatsD d3 && _) = false
            rw [n3, Bool.and_false, Bool.false_and]
          | true =>
            refine iteF ?_
            have fin := q H4 s14
            have e : wayIn names (.str x) (.str y) d3 = (inNames x names && inNames y names && ltS x y) := by
              show (nameOkS x && nameOkS y && beatsD d3 && _) = _
              rw [ox, oy, n3]
              rfl
            rw [e] at fin
            -- one in folk and other in folk and one < other
            refine ⟨_, rfl, _, rfl, a, _, rfl, seq_same s14 hf, rfl, flat_names names, _, rfl, ?_⟩
            cases i1 : inV (.str x) (names.map V.str) with
            | false =>
              refine iteF ?_
              rw [show inNames x names = false from i1] at fin
              exact fin
            | true =>
              rw [show inNames x names = true from i1, Bool.true_and] at fin
              refine iteT ⟨_, rfl, _, rfl, a, _, rfl, seq_same s14 hf, rfl, flat_names names, _, rfl, ?_⟩
              cases i2 : inV (.str y) (names.map V.str) with
              | false =>
                refine iteF ?_
                rw [show inNames y names = false from i2] at fin
                exact fin
              | true =>
                rw [show inNames y names = true from i2, Bool.true_and] at fin
                exact iteT ⟨_, rfl, _, rfl, x, y, rfl, rfl, fin⟩
/-! ### are_folk -/
theorem scAreFolk : FnScope ["thing", "name"] ["thing"] (defScope sAreFolk) := ⟨rfl, rfl, rfl, by decide +kernel, rfl, by decide +kernel, by decide +kernel⟩
def folkD (d : PyData) : Bool := rowD d && decide (1 ≤ (itemsD d).length) && decide ((itemsD d).length ≤ 60) && (itemsD d).all nameD && risingD (itemsD d)
/-- a row of names -/
theorem names_of {H : Hp} : ∀ {xs : List V} {ds : List PyData}, xs.length = ds.length → (∀ (i : Nat) (x : V) (e : PyData), xs[i]? = some x → ds[i]? = some e → Da H x e) → ds.all nameD = true →
    ∃ names : List Str, xs = names.map V.str ∧ ds = names.map PyData.str ∧ (∀ x ∈ names, nameOkS x = true)
  | [], [], _, _, _ => ⟨[], rfl, rfl, fun x h => by simp at h⟩
  | x :: xs, d :: ds, hl, hi, ha => by
    rw [List.all_cons, Bool.and_eq_true] at ha
    obtain ⟨y, rfl, rfl, oy, _⟩ := nameD_str (hi 0 x d rfl rfl) ha.1
    obtain ⟨names, rfl, rfl, on⟩ := names_of (xs := xs) (ds := ds) (by simpa using hl) (fun i x e h1 h2 => hi (i + 1) x e (by simpa using h1) (by simpa using h2)) ha.2
    refine ⟨y :: names, rfl, rfl, fun z hz => ?_⟩
    rcases List.mem_cons.mp hz with e | e
    · rw [e]
      exact oy
    · exact on z e
theorem strs_alike (names : List Str) : ∀ d ∈ names.map PyData.str, ∀ e ∈ names.map PyData.str, PySem.W.alike d e = true := fun d hd e he => by
  obtain ⟨x, _, rfl⟩ := List.mem_map.mp hd
  obtain ⟨y, _, rfl⟩ := List.mem_map.mp he
  rfl
theorem strs_flat (names : List Str) : ∀ d ∈ names.map PyData.str, d ≠ .none ∧ d.depth ≤ 20 := fun d hd => by
  obtain ⟨x, _, rfl⟩ := List.mem_map.mp hd
  exact ⟨nofun, by show 0 ≤ 20; omega⟩
theorem ok_are_folk {f f5 : Addr} {fd fd5 : FuncData} {tk : Tok} (F : Fun K "are_folk" "are_folk" sAreFolk f fd) (B : Blt mg) (T : FormDefs P w K mg base) (D5 : Def K mg "rises" f5 fd5 ["things"]) (G5 : FnOk P w K mg base CX0 1 f5 fd5 ["things"] (spRises K))
    (mF : mg "MOST_FOLK" = some (.int 60 tk)) : FnOk P w K mg base CX0 2 f fd ["thing"] (spJudge K folkD) := by
  refine F.ok scAreFolk (fun vs H Q E h => ?_) (fun cdv A outer s H vs Q E hr h => ?_)
  · obtain ⟨v, d, rfl, _⟩ := h
    rfl
  · obtain ⟨v, d, rfl, hd, q⟩ := h
    refine ⟨_, pss_cons (ps_if (PW.pt (pw_or (pt_not (pt_val (pe_call T.G4 hr (by rfl) T.D4.at_ T.D4.kp T.D4.b .nil pass0 (pa_cons (pv 0) pa_nil))))
        (pw_or1 (pt_not (pt_chain op_le op_le pe_int (pe_callB call_len_seq (by rfl) B.len (by decide +kernel) (pa_cons (pv 0) pa_nil)) (pe_glob (v := .int 60) rfl mF ⟨_, rfl⟩)))))) (pss_one (ps_ret pe_bl)) pss_nil)
      (pss_one (ps_ret (pe_and (pe_callB (cr_all rfl) (by rfl) B.all (by decide +kernel) (pa_cons (pe_lc (own := [("name", 1)]) (g := gName 1) (tt := tYes) (te := tCall (spJudge K nameD) [] (fun _ _ _ => False) (tCons (tVar 1) tNil)) rfl scAreFolk.nd (pi_row (pv 0)) (blkOk_by (N := ["thing", "name"]) (sc := defScope sAreFolk) (by decide +kernel))
        (fun _ _ _ _ _ => pg_name (i := 1) scAreFolk.nd rfl (Or.inl rfl)) (fun _ _ _ _ _ => pts_nil) (fun _ _ _ _ _ => pe_call T.G2 hr (by rfl) T.D2.at_ T.D2.kp T.D2.b .nil pass0 (pa_cons (pv 1) pa_nil))) pa_nil))
        (pe_one (pe_call G5 hr (by rfl) D5.at_ D5.kp D5.b .nil pass0 (pa_cons (pv 0) pa_nil)))))), ?_⟩
    have no : ∀ H', Same H H' → folkD d = false → Q (.bl false) H' := fun H' s' e => by
      have := q H' s'
      rw [e] at this
      exact this
    refine ⟨_, rfl, v, d, rfl, hd, fun H1 s1 => ⟨_, rfl, ?_⟩⟩
    cases r : rowD d with
    | false => exact iteT (iteT (no H1 s1 (by unfold folkD; rw [r]; rfl)))
    | true =>
      refine iteF ?_
      obtain ⟨a, xs, rfl, hs, hl, hi⟩ := (hd.on s1).items r
      refine ⟨_, rfl, a, xs, rfl, seq_of hs, _, _, rfl, rfl, _, rfl, ?_⟩
      by_cases l1 : 1 ≤ xs.length
      · rw [decide_eq_true (show (1 : Int) ≤ ((xs.length : Nat) : Int) by omega)]
        refine iteT ⟨_, _, rfl, rfl, _, rfl, ?_⟩
        by_cases l2 : xs.length ≤ 60
        · rw [decide_eq_true (show ((xs.length : Nat) : Int) ≤ 60 by omega)]
          refine iteF ?_
          -- all([is_name(name) for name in thing])
          have ef : folkD d = ((itemsD d).all nameD && risingD (itemsD d)) := by
            unfold folkD
            rw [r, decide_eq_true (show 1 ≤ (itemsD d).length by omega), decide_eq_true (show (itemsD d).length ≤ 60 by omega)]
            rfl
          have go : ∀ (J : It) (D : Addr), Walk J xs.length (fun H2 => Same H1 H2) (YAt xs) → H1 D = none →
              ∃ W : Nat → Nat → Hp → Prop, (∃ m, W 0 m (upd H1 D (.lst []))) ∧ ∀ i m H, W i m H → (J.stop i H ∧ rAll K [.ref D] H fun x H2 => ∃ c, x = .bl c ∧ if c = true then tCall (spRises K) [] (fun _ _ _ => False) (tCons (tVar 0) tNil) (start ["thing", "name"] [.ref a]) H2 Q else Q (.bl false) H2) ∨
                (J.go i H ∧ ∃ Nx : Hp → Prop, (∀ H', Nx H' → ∃ m', m' < m ∧ W (i + 1) m' H') ∧ ∀ x H', J.yld i H x H' → gName 1 x (wipe (start ["thing", "name"] [.ref a]) [1]) H' fun σ2 H2 =>
                  wipe σ2 [1] = wipe (start ["thing", "name"] [.ref a]) [1] ∧ tYes σ2 H2 fun b H3 => if b = true then tCall (spJudge K nameD) [] (fun _ _ _ => False) (tCons (tVar 1) tNil) σ2 H3 fun y H4 => ∃ acc, H4 D = some (.lst acc) ∧ acc.length < sizeLine ∧ Nx (upd H4 D (.lst (acc ++ [y]))) else Nx H3) := by
            intro J D wk nD
            refine lc_pure wk (fun i => .bl (nameD (((itemsD d)[i]?).getD .none))) (Nat.le_trans l2 (by decide)) nD (fun _ h => h) yAt_same (fun i y H2 H3 Z hi2 s2 hy k => ?_) fun H2 s2 h2 => ?_
            · obtain ⟨rfl, ey⟩ := hy
              obtain ⟨e, ee⟩ : ∃ e, (itemsD d)[i]? = some e := ⟨_, List.getElem?_eq_getElem (show i < (itemsD d).length by omega)⟩
              rw [ee] at k
              exact ⟨rfl, y, rfl, y, e, rfl, (hi i y e ey ee).on s2, fun H5 s5 => k H5 s5⟩
            · refine ⟨D, (List.range xs.length).map fun i => nameD (((itemsD d)[i]?).getD .none), rfl, ?_, _, rfl, ?_⟩
              · rw [List.map_map]
                exact SqL.of h2
              · have e : ((List.range xs.length).map fun i => nameD (((itemsD d)[i]?).getD .none)).all id = (itemsD d).all nameD := by
                  rw [hl, map_range_get (itemsD d) nameD, List.all_map]
                  rfl
                rw [e]
                cases al : (itemsD d).all nameD with
                | false => exact iteF (no H2 (s1.trans s2) (by rw [ef, al]; rfl))
                | true =>
                  refine iteT ?_
                  obtain ⟨names, en, ed, _⟩ := names_of hl hi al
                  refine ⟨_, rfl, a, xs, itemsD d, rfl, ?_, ?_, Nat.le_trans l2 (by decide), ?_, ?_, fun H5 s5 => ?_⟩
                  · refine (seq_same s2 (seq_of hs)).imp id fun z => ⟨z, fun e => ?_⟩
                    rw [e] at l1
                    simp at l1
                  · rw [en, ed]
                    exact (Ims.strs names).dp
                  · rw [ed]
                    exact strs_alike names
                  · rw [ed]
                    exact strs_flat names
                  · have := q H5 ((s1.trans s2).trans s5)
                    rw [ef, al, Bool.true_and] at this
                    exact this
          refine ⟨_, rfl, a, rfl, ?_⟩
          rcases hs with hs | hs
          · exact .inl ⟨⟨xs, SqL.of hs⟩, fun D nD => go _ D (walk_list.mono (fun H2 s2 => s2.seq (SqL.of hs)) fun _ _ _ _ _ _ y => y) nD⟩
          · exact .inr ⟨⟨xs, SqT.of hs⟩, fun D nD => go _ D (walk_tup.mono (fun H2 s2 => sqT_same s2 (SqT.of hs)) fun _ _ _ _ _ _ y => y) nD⟩
        · rw [decide_eq_false (show ¬ ((xs.length : Nat) : Int) ≤ 60 by omega)]
          exact iteT (no H1 s1 (by unfold folkD; rw [decide_eq_false (show ¬ (itemsD d).length ≤ 60 by omega)]; simp))
      · rw [decide_eq_false (show ¬ (1 : Int) ≤ ((xs.length : Nat) : Int) by omega)]
        exact iteF ⟨_, rfl, iteT (no H1 s1 (by unfold folkD; rw [decide_eq_false (show ¬ 1 ≤ (itemsD d).length by omega)]; simp))⟩
/-! ### are_ways -/
theorem scAreWays : FnScope ["folk", "thing", "way"] ["folk", "thing"] (defScope sAreWays) := ⟨rfl, rfl, rfl, by decide +kernel, rfl, by decide +kernel, by decide +kernel⟩
/-- the two of a way -/
def pairOf (d : PyData) : PyData := .tuple [((itemsD d)[0]?).getD .none, ((itemsD d)[1]?).getD .none]
def waysD (names : List Str) (d : PyData) : Bool := rowD d && decide ((itemsD d).length ≤ 150) && (itemsD d).all (wayD names) && risingD ((itemsD d).map pairOf)
theorem wayD_true {names : List Str} {d : PyData} (h : wayD names d = true) : rowD d = true ∧ ∃ x y n, itemsD d = [.str x, .str y, .int n] ∧ nameOkS x = true ∧ nameOkS y = true ∧ 1 ≤ n ∧ n ≤ 1000000000000 ∧ inNames x names = true ∧ inNames y names = true ∧ ltS x y = true := by
  unfold wayD at h
  rw [Bool.and_eq_true] at h
  obtain ⟨h1, h2⟩ := h
  have r : rowD d = true ∧ (itemsD d).length = 3 := by simpa [rowOfD] using h1
  refine ⟨r.1, ?_⟩
  match ei : itemsD d, r.2 with
  | [a, b, c], _ =>
    rw [ei] at h2
    dsimp only at h2
    match a, b, h2 with
    | .str x, .str y, h2 =>
      have h3 : (nameOkS x && nameOkS y && beatsD c && (inNames x names && inNames y names && ltS x y)) = true := h2
      have hb : beatsD c = true := by
        cases hb : beatsD c with
        | true => rfl
        | false =>
          rw [hb] at h3
          simp at h3
      obtain ⟨n, rfl⟩ : ∃ n, c = .int n := by
        cases c with
        | int n => exact ⟨n, rfl⟩
        | _ => exact absurd hb (by simp [beatsD])
      have h4 : nameOkS x = true ∧ nameOkS y = true ∧ (1 ≤ n ∧ n ≤ 1000000000000) ∧ inNames x names = true ∧ inNames y names = true ∧ ltS x y = true := by
        simpa [beatsD, and_assoc] using h3
      exact ⟨x, y, n, rfl, h4.1, h4.2.1, h4.2.2.1.1, h4.2.2.1.2, h4.2.2.2.1, h4.2.2.2.2.1, h4.2.2.2.2.2⟩
def spAreWays (K : PySem.W.Frag) : Sp := fun vs H Q _ => ∃ (a : Addr) (names : List Str) (v : V) (d : PyData), vs = [.ref a, v] ∧ (SqL K H a (names.map V.str) ∨ SqT K H a (names.map V.str)) ∧ Da H v d ∧ ∀ H', Same H H' → Q (.bl (waysD names d)) H'
theorem ok_are_ways {f f5 f6 : Addr} {fd fd5 fd6 : FuncData} {tk : Tok} (F : Fun K "are_ways" "are_ways" sAreWays f fd) (B : Blt mg) (T : FormDefs P w K mg base) (D5 : Def K mg "rises" f5 fd5 ["things"]) (G5 : FnOk P w K mg base CX0 1 f5 fd5 ["things"] (spRises K))
    (D6 : Def K mg "is_way" f6 fd6 ["folk", "thing"]) (G6 : FnOk P w K mg base CX0 3 f6 fd6 ["folk", "thing"] (spIsWay K)) (mF : mg "MOST_WAYS" = some (.int 150 tk)) : FnOk P w K mg base CX0 4 f fd ["folk", "thing"] (spAreWays K) := by
  refine F.ok scAreWays (fun vs H Q E h => ?_) (fun cdv A outer s H vs Q E hr h => ?_)
  · obtain ⟨a, names, v, d, rfl, _⟩ := h
    rfl
  · obtain ⟨b, names, v, d, rfl, hf, hd, q⟩ := h
    refine ⟨_, pss_cons (ps_if (PW.pt (pw_or (pt_not (pt_val (pe_call T.G4 (hr.mono (by decide)) (by rfl) T.D4.at_ T.D4.kp T.D4.b .nil pass0 (pa_cons (pv 1) pa_nil))))
        (pw_or1 (pt_cmpR op_gt (pe_callB call_len_seq (by rfl) B.len (by decide +kernel) (pa_cons (pv 1) pa_nil)) (pe_glob (v := .int 150) rfl mF ⟨_, rfl⟩) (nomark _))))) (pss_one (ps_ret pe_bl)) pss_nil)
      (pss_cons (ps_if (pt_not (pt_val (pe_callB (cr_all rfl) (by rfl) B.all (by decide +kernel) (pa_cons (pe_lc (own := [("way", 2)]) (g := gName 2) (tt := tYes) (te := tCall (spIsWay K) [] (fun _ _ _ => False) (tCons (tVar 0) (tCons (tVar 2) tNil))) rfl scAreWays.nd (pi_row (pv 1)) (blkOk_by (N := ["folk", "thing", "way"]) (sc := defScope sAreWays) (by decide +kernel))
          (fun _ _ _ _ _ => pg_name (i := 2) scAreWays.nd rfl (Or.inl rfl)) (fun _ _ _ _ _ => pts_nil) (fun _ _ _ _ _ => pe_call G6 hr (by rfl) D6.at_ D6.kp D6.b .nil pass0 (pa_cons (pv 0) (pa_cons (pv 2) pa_nil)))) pa_nil)))) (pss_one (ps_ret pe_bl)) pss_nil)
      (pss_one (ps_ret (pe_call G5 (hr.mono (by decide)) (by rfl) D5.at_ D5.kp D5.b .nil pass0 (pa_cons (pe_lc (own := [("way", 2)]) (g := gName 2) (tt := tYes) (te := tTup (tCons (tOp (rIx K) (tVar 2) (tC (.int 0))) (tCons (tOp (rIx K) (tVar 2) (tC (.int 1))) tNil))) rfl scAreWays.nd (pi_row (pv 1)) (blkOk_by (N := ["folk", "thing", "way"]) (sc := defScope sAreWays) (by decide +kernel))
          (fun _ _ _ _ _ => pg_name (i := 2) scAreWays.nd rfl (Or.inl rfl)) (fun _ _ _ _ _ => pts_nil) (fun _ _ _ _ _ => pe_tup (pa_cons (pe_ix ix_seq (pv 2) pe_int (fun _ _ => rfl)) (pa_cons (pe_ix ix_seq (pv 2) pe_int (fun _ _ => rfl)) pa_nil)))) pa_nil))))), ?_⟩
    have no : ∀ H', Same H H' → waysD names d = false → Q (.bl false) H' := fun H' s' e => by
      have := q H' s'
      rw [e] at this
      exact this
    refine ⟨_, rfl, v, d, rfl, hd, fun H1 s1 => ⟨_, rfl, ?_⟩⟩
    cases r : rowD d with
    | false => exact iteT (iteT (no H1 s1 (by unfold waysD; rw [r]; rfl)))
    | true =>
      refine iteF ?_
      obtain ⟨a, xs, rfl, hs, hl, hi⟩ := (hd.on s1).items r
      refine ⟨_, rfl, a, xs, rfl, seq_of hs, _, _, rfl, rfl, _, rfl, ?_⟩
      by_cases l2 : xs.length ≤ 150
      · rw [decide_eq_false (show ¬ (150 : Int) < ((xs.length : Nat) : Int) by omega)]
        refine iteF ?_
        have ef : waysD names d = ((itemsD d).all (wayD names) && risingD ((itemsD d).map pairOf)) := by
          unfold waysD
          rw [r, decide_eq_true (show (itemsD d).length ≤ 150 by omega)]
          rfl
        -- all([is_way(folk, way) for way in thing])
        refine ⟨_, rfl, a, rfl, ?_⟩
        have walk1 : ∀ H0, Same H1 H0 → (((∃ ys, SqL K H0 a ys) ∧ Walk (Itl K a) xs.length (fun H2 => Same H0 H2) (YAt xs)) ∨ ((∃ ys, SqT K H0 a ys) ∧ Walk (Itt K a) xs.length (fun H2 => Same H0 H2) (YAt xs))) := by
          intro H0 s0
          rcases hs with hs | hs
          · exact .inl ⟨⟨xs, s0.seq (SqL.of hs)⟩, walk_list.mono (fun H2 s2 => s2.seq (s0.seq (SqL.of hs))) fun _ _ _ _ _ _ y => y⟩
          · exact .inr ⟨⟨xs, sqT_same s0 (SqT.of hs)⟩, walk_tup.mono (fun H2 s2 => sqT_same s2 (sqT_same s0 (SqT.of hs))) fun _ _ _ _ _ _ y => y⟩
        -- behind the first comprehension
        suffices rest : ∀ H2, Same H1 H2 → (itemsD d).all (wayD names) = true → tRet (tCall (spRises K) [] (fun _ _ _ => False) (tCons (tLc (iRow K (tVar 1)) (gName 2) tYes (tTup (tCons (tOp (rIx K) (tVar 2) (tC (.int 0))) (tCons (tOp (rIx K) (tVar 2) (tC (.int 1))) tNil))) [2]) tNil)) { nx := fun _ H' => Q .non H', rt := Q } (start ["folk", "thing", "way"] [.ref b, .ref a]) H2 by
          have item : ∀ (J : It) (D : Addr), Walk J xs.length (fun H2 => Same H1 H2) (YAt xs) → H1 D = none → ∀ Qd : Hp → Prop, (∀ H2, Same H1 H2 → H2 D = some (.lst (((itemsD d).map (wayD names)).map V.bl)) → Qd H2) →
              ∃ W : Nat → Nat → Hp → Prop, (∃ m, W 0 m (upd H1 D (.lst []))) ∧ ∀ i m H, W i m H → (J.stop i H ∧ Qd H) ∨
                (J.go i H ∧ ∃ Nx : Hp → Prop, (∀ H', Nx H' → ∃ m', m' < m ∧ W (i + 1) m' H') ∧ ∀ x H', J.yld i H x H' → gName 2 x (wipe (start ["folk", "thing", "way"] [.ref b, .ref a]) [2]) H' fun σ2 H2 =>
                  wipe σ2 [2] = wipe (start ["folk", "thing", "way"] [.ref b, .ref a]) [2] ∧ tYes σ2 H2 fun b H3 => if b = true then tCall (spIsWay K) [] (fun _ _ _ => False) (tCons (tVar 0) (tCons (tVar 2) tNil)) σ2 H3 fun y H4 => ∃ acc, H4 D = some (.lst acc) ∧ acc.length < sizeLine ∧ Nx (upd H4 D (.lst (acc ++ [y]))) else Nx H3) := by
            intro J D wk nD Qd hQd
            refine lc_pure wk (fun i => .bl (wayD names (((itemsD d)[i]?).getD .none))) (Nat.le_trans l2 (by decide)) nD (fun _ h => h) yAt_same (fun i y H2 H3 Z hi2 s2 hy k => ?_) fun H2 s2 h2 => hQd H2 s2 ?_
            · obtain ⟨rfl, ey⟩ := hy
              obtain ⟨e, ee⟩ : ∃ e, (itemsD d)[i]? = some e := ⟨_, List.getElem?_eq_getElem (show i < (itemsD d).length by omega)⟩
              rw [ee] at k
              exact ⟨rfl, _, rfl, y, rfl, b, names, y, e, rfl, seq_same (s1.trans s2) hf, (hi i y e ey ee).on s2, fun H5 s5 => k H5 s5⟩
            · rw [h2, hl]
              have e1 := map_range_get (itemsD d) (wayD names) .none
              rw [← e1, List.map_map]
              rfl
          have fin : ∀ D H2, Same H1 H2 → H2 D = some (.lst (((itemsD d).map (wayD names)).map V.bl)) → rAll K [.ref D] H2 fun x H3 => ∃ c, x = .bl c ∧ if (!c) = true then tRet (tC (.bl false)) { nx := fun _ H' => Q .non H', rt := Q } (start ["folk", "thing", "way"] [.ref b, .ref a]) H3 else tNext { nx := tRet (tCall (spRises K) [] (fun _ _ _ => False) (tCons (tLc (iRow K (tVar 1)) (gName 2) tYes (tTup (tCons (tOp (rIx K) (tVar 2) (tC (.int 0))) (tCons (tOp (rIx K) (tVar 2) (tC (.int 1))) tNil))) [2]) tNil)) { nx := fun _ H' => Q .non H', rt := Q }, rt := Q } (start ["folk", "thing", "way"] [.ref b, .ref a]) H3 := by
            intro D H2 s2 h2
            refine ⟨D, (itemsD d).map (wayD names), rfl, SqL.of h2, ?_⟩
            rw [List.all_map, show (id ∘ wayD names) = wayD names from rfl]
            cases al : (itemsD d).all (wayD names) with
            | false => exact ⟨_, rfl, iteT (no H2 (s1.trans s2) (by rw [ef, al]; rfl))⟩
            | true => exact ⟨_, rfl, iteF (rest H2 s2 al)⟩
          rcases walk1 H1 (Same.refl _) with ⟨h1, wk⟩ | ⟨h1, wk⟩
          · exact .inl ⟨h1, fun D nD => item _ D wk nD _ (fin D)⟩
          · exact .inr ⟨h1, fun D nD => item _ D wk nD _ (fin D)⟩
        -- the pairs
        intro H2 s2 al
        have each : ∀ (i : Nat) (e : PyData), (itemsD d)[i]? = some e → wayD names e = true := fun i e ee => List.all_eq_true.mp al e (List.mem_of_getElem? ee)
        refine ⟨_, rfl, a, rfl, ?_⟩
        have item : ∀ (J : It) (D : Addr), Walk J xs.length (fun H3 => Same H2 H3) (YAt xs) → H2 D = none →
              ∃ W : Nat → Nat → Hp → Prop, (∃ m, W 0 m (upd H2 D (.lst []))) ∧ ∀ i m H, W i m H → (J.stop i H ∧ spRises K [.ref D] H Q fun _ _ _ => False) ∨
                (J.go i H ∧ ∃ Nx : Hp → Prop, (∀ H', Nx H' → ∃ m', m' < m ∧ W (i + 1) m' H') ∧ ∀ x H', J.yld i H x H' → gName 2 x (wipe (start ["folk", "thing", "way"] [.ref b, .ref a]) [2]) H' fun σ2 H2 =>
                  wipe σ2 [2] = wipe (start ["folk", "thing", "way"] [.ref b, .ref a]) [2] ∧ tYes σ2 H2 fun b H3 => if b = true then tTup (tCons (tOp (rIx K) (tVar 2) (tC (.int 0))) (tCons (tOp (rIx K) (tVar 2) (tC (.int 1))) tNil)) σ2 H3 fun y H4 => ∃ acc, H4 D = some (.lst acc) ∧ acc.length < sizeLine ∧ Nx (upd H4 D (.lst (acc ++ [y]))) else Nx H3) := by
          intro J D wk nD
          refine lc_gen wk TS (fun _ H => Same H2 H) (fun i y H => ∀ e, (itemsD d)[i]? = some e → Im H y (pairOf e)) (Nat.le_trans l2 (by decide)) (fun H acc acc' h => TS.lst h) (fun i H acc acc' _ gd => same_at gd nD) (fun j y H H' t h e ee => (h e ee).on t) (same_new nD) (fun i H gd => gd) (fun i y H3 H4 acc Z hi2 s3 hacc hy k => ?_) (fun H3 ys s3 h3 hlen hR => ?_)
          · obtain ⟨rfl, ey⟩ := hy
            obtain ⟨e, ee⟩ : ∃ e, (itemsD d)[i]? = some e := ⟨_, List.getElem?_eq_getElem (show i < (itemsD d).length by omega)⟩
            obtain ⟨re, x, z, n, ie, _⟩ := wayD_true (each i e ee)
            have dy := ((hi i y e ey ee).on s2).on s3
            obtain ⟨c, zs, rfl, hc, hcl, hci⟩ := dy.items re
            rw [ie] at hcl hci
            obtain ⟨z1, z2, z3, rfl⟩ : ∃ z1 z2 z3, zs = [z1, z2, z3] := by
              match zs, hcl with
              | [z1, z2, z3], _ => exact ⟨z1, z2, z3, rfl⟩
            obtain rfl : z1 = .str x := by
              cases hci 0 z1 (.str x) rfl rfl
              rfl
            obtain rfl : z2 = .str z := by
              cases hci 1 z2 (.str z) rfl rfl
              rfl
            have ix : ∀ (j : Nat) u, [V.str x, V.str z, z3][j]? = some u → ∀ Q' : VK, Q' u H4 → rIx K (.ref c) (.int j) H4 Q' := fun j u ej Q' q' =>
              hc.elim (fun h => .inl ⟨c, _, _, u, rfl, rfl, SqL.of h, atI_nat ej, q'⟩) fun h => .inr (.inl ⟨c, _, _, u, rfl, rfl, SqT.of h, atI_nat ej, q'⟩)
            refine ⟨rfl, _, rfl, ix 0 _ rfl _ ?_⟩
            refine ⟨_, rfl, ix 1 _ rfl _ ?_⟩
            refine ⟨by show 2 ≤ sizeLine; decide, fun p np => ?_⟩
            refine k _ _ ((same_new np) _ _ hacc) (TS.new np) (s3.trans (same_new np)) fun e' ee' => ?_
            cases ee.symm.trans ee'
            have ep : pairOf e = .tuple [.str x, .str z] := by
              unfold pairOf
              rw [ie]
              rfl
            rw [ep]
            exact .tup upd_same (.cons (.str x) (.cons (.str z) .nil))
          · have im : Ims H3 ys ((itemsD d).map pairOf) := Ims.of (by rw [List.length_map, hlen, hl]) fun i v' d' e1 e2 => by
              rw [List.getElem?_map] at e2
              cases ee : (itemsD d)[i]? with
              | none =>
                rw [ee] at e2
                cases e2
              | some e =>
                rw [ee] at e2
                cases e2
                exact hR i v' e1 e ee
            have pr : ∀ d' ∈ (itemsD d).map pairOf, ∃ x y, d' = .tuple [.str x, .str y] := fun d' hd' => by
              obtain ⟨e, he, rfl⟩ := List.mem_map.mp hd'
              obtain ⟨i, ee⟩ := List.getElem?_of_mem he
              obtain ⟨_, x, z, n, ie, _⟩ := wayD_true (each i e ee)
              refine ⟨x, z, ?_⟩
              unfold pairOf
              rw [ie]
              rfl
            refine ⟨D, ys, (itemsD d).map pairOf, rfl, .inl (SqL.of h3), im.dp, by rw [hlen]; exact Nat.le_trans l2 (by decide), fun d1 h1 d2 h2 => ?_, fun d1 h1 => ?_, fun H5 s5 => ?_⟩
            · obtain ⟨x, y, rfl⟩ := pr d1 h1
              obtain ⟨x', y', rfl⟩ := pr d2 h2
              rfl
            · obtain ⟨x, y, rfl⟩ := pr d1 h1
              exact ⟨nofun, by show PyData.depth _ ≤ 20; simp [PyData.depth, PyData.depthAll]⟩
            · have := q H5 (((s1.trans s2).trans s3).trans s5)
              rw [ef, al, Bool.true_and] at this
              exact this
        rcases walk1 H2 s2 with ⟨h1, wk⟩ | ⟨h1, wk⟩
        · exact .inl ⟨h1, fun D nD => item _ D wk nD⟩
        · exact .inr ⟨h1, fun D nD => item _ D wk nD⟩
      · rw [decide_eq_true (show (150 : Int) < ((xs.length : Nat) : Int) by omega)]
        exact iteT (no H1 s1 (by unfold waysD; rw [decide_eq_false (show ¬ (itemsD d).length ≤ 150 by omega)]; simp))
end
end Cry
/-! is_web, own_web. -/
namespace Cry
open PySem PySem.Spec PyProof.Rows L2
section
variable {P : Program} {w : World} {K : PySem.W.Frag} {mg : Str → Option Value} {base : Heap}
/-! ### is_web -/
theorem scIsWeb : FnScope ["thing", "folk", "ways"] ["thing"] (defScope sIsWeb) := ⟨rfl, rfl, rfl, by decide +kernel, rfl, by decide +kernel, by decide +kernel⟩
def textOf : PyData → Str
  | .str x => x
  | _ => ""
def namesD (f : PyData) : List Str := (itemsD f).map textOf
def webD (d : PyData) : Bool :=
  rowOfD 2 d && match itemsD d with
    | [f, ws] => folkD f && waysD (namesD f) ws
    | _ => false
theorem namesD_strs {names : List Str} {f : PyData} (h : itemsD f = names.map PyData.str) : namesD f = names := by
  unfold namesD
  rw [h, List.map_map]
  have : (textOf ∘ PyData.str) = id := rfl
  rw [this, List.map_id]
theorem folkD_names {H : Hp} {v : V} {f : PyData} (h : Da H v f) (t : folkD f = true) : ∃ a xs, v = .ref a ∧ (H a = some (.lst xs) ∨ H a = some (.tup xs)) ∧ xs = (namesD f).map V.str ∧ itemsD f = (namesD f).map PyData.str ∧ (∀ x ∈ namesD f, nameOkS x = true) ∧
    1 ≤ (namesD f).length ∧ (namesD f).length ≤ 60 ∧ risingD ((namesD f).map PyData.str) = true := by
  have t' : rowD f = true ∧ 1 ≤ (itemsD f).length ∧ (itemsD f).length ≤ 60 ∧ (itemsD f).all nameD = true ∧ risingD (itemsD f) = true := by
    unfold folkD at t
    rw [Bool.and_eq_true, Bool.and_eq_true, Bool.and_eq_true, Bool.and_eq_true, decide_eq_true_eq, decide_eq_true_eq] at t
    exact ⟨t.1.1.1.1, t.1.1.1.2, t.1.1.2, t.1.2, t.2⟩
  obtain ⟨a, xs, rfl, hs, hl, hi⟩ := h.items t'.1
  obtain ⟨names, en, ed, on⟩ := names_of hl hi t'.2.2.2.1
  have e := namesD_strs ed
  rw [e]
  have ll : (itemsD f).length = names.length := by rw [ed, List.length_map]
  exact ⟨a, xs, rfl, hs, en, ed, on, by omega, by omega, by rw [← ed]; exact t'.2.2.2.2⟩
theorem webD_two {d : PyData} (h : rowOfD 2 d = true) : rowD d = true ∧ ∃ f ws, itemsD d = [f, ws] ∧ webD d = (folkD f && waysD (namesD f) ws) := by
  have r : rowD d = true ∧ (itemsD d).length = 2 := by simpa [rowOfD] using h
  refine ⟨r.1, ?_⟩
  match ei : itemsD d, r.2 with
  | [f, ws], _ =>
    refine ⟨f, ws, rfl, ?_⟩
    unfold webD
    rw [h, ei, Bool.true_and]
theorem ok_is_web {f f1 f2 : Addr} {fd fd1 fd2 : FuncData} (F : Fun K "is_web" "is_web" sIsWeb f fd) (T : FormDefs P w K mg base) (D1 : Def K mg "are_folk" f1 fd1 ["thing"]) (G1 : FnOk P w K mg base CX0 2 f1 fd1 ["thing"] (spJudge K folkD))
    (D2 : Def K mg "are_ways" f2 fd2 ["folk", "thing"]) (G2 : FnOk P w K mg base CX0 4 f2 fd2 ["folk", "thing"] (spAreWays K)) : FnOk P w K mg base CX0 5 f fd ["thing"] (spJudge K webD) := by
  refine F.ok scIsWeb (fun vs H Q E h => ?_) (fun cdv A outer s H vs Q E hr h => ?_)
  · obtain ⟨v, d, rfl, _⟩ := h
    rfl
  · obtain ⟨v, d, rfl, hd, q⟩ := h
    refine ⟨_, pss_cons (ps_if (pt_not (pt_val (pe_call T.G1 (hr.mono (by decide)) (by rfl) T.D1.at_ T.D1.kp T.D1.b .nil pass0 (pa_cons pe_int (pa_cons (pv 0) pa_nil))))) (pss_one (ps_ret pe_bl)) pss_nil)
      (pss_cons (ps_asg (pv 0) (pg_row rfl (pgs_cons (pg_name (i := 1) scIsWeb.nd rfl (Or.inl rfl)) (pgs_cons (pg_name (i := 2) scIsWeb.nd rfl (Or.inl rfl)) pgs_nil))))
      (pss_one (ps_ret (pe_and (pe_call G1 (hr.mono (by decide)) (by rfl) D1.at_ D1.kp D1.b .nil pass0 (pa_cons (pv 1) pa_nil)) (pe_one (pe_call G2 hr (by rfl) D2.at_ D2.kp D2.b .nil pass0 (pa_cons (pv 1) (pa_cons (pv 2) pa_nil)))))))), ?_⟩
    refine ⟨_, rfl, 2, v, d, rfl, hd, fun H1 s1 => ⟨_, rfl, ?_⟩⟩
    cases r : rowOfD 2 d with
    | false =>
      refine iteT ?_
      have := q H1 s1
      unfold webD at this
      rw [r] at this
      exact this
    | true =>
      obtain ⟨rd, df, dw, ei, ew⟩ := webD_two r
      refine iteF ?_
      obtain ⟨b, xs, rfl, hs, hl, hi⟩ := (hd.on s1).items rd
      rw [ei] at hl hi
      obtain ⟨x1, x2, rfl⟩ : ∃ x1 x2, xs = [x1, x2] := by
        match xs, hl with
        | [x1, x2], _ => exact ⟨x1, x2, rfl⟩
      have e1 := hi 0 x1 df rfl rfl
      have e2 := hi 1 x2 dw rfl rfl
      rw [ew] at q
      refine ⟨_, rfl, b, _, rfl, seq_of hs, rfl, _, _, rfl, _, _, rfl, rfl, ?_⟩
      refine ⟨_, rfl, x1, df, rfl, e1, fun H2 s2 => ⟨_, rfl, ?_⟩⟩
      cases fk : folkD df with
      | false =>
        refine iteF ?_
        have := q H2 (s1.trans s2)
        rw [fk] at this
        exact this
      | true =>
        obtain ⟨a, ys, rfl, ha, en, _⟩ := folkD_names (e1.on s2) fk
        refine iteT ⟨_, rfl, _, rfl, a, namesD df, x2, dw, rfl, ?_, e2.on s2, fun H3 s3 => ?_⟩
        · rw [← en]
          exact seq_of ha
        · have := q H3 ((s1.trans s2).trans s3)
          rw [fk, Bool.true_and] at this
          exact this
/-! ### a web as lists of names and of ways -/
abbrev Way := Str × Str × Int
def wayD3 (y : Way) : PyData := .tuple [.str y.1, .str y.2.1, .int y.2.2]
def pairD (y : Way) : PyData := .tuple [.str y.1, .str y.2.1]
structure WebOk (names : List Str) (ways : List Way) : Prop where
  ok : ∀ x ∈ names, nameOkS x = true
  one : 1 ≤ names.length
  most : names.length ≤ 60
  up : risingD (names.map PyData.str) = true
  few : ways.length ≤ 150
  way : ∀ y ∈ ways, nameOkS y.1 = true ∧ nameOkS y.2.1 = true ∧ 1 ≤ y.2.2 ∧ y.2.2 ≤ 1000000000000 ∧ inNames y.1 names = true ∧ inNames y.2.1 names = true ∧ ltS y.1 y.2.1 = true
  upw : risingD (ways.map pairD) = true
def intOf : PyData → Int
  | .int n => n
  | _ => 0
def wayOf (e : PyData) : Way := (textOf (((itemsD e)[0]?).getD .none), textOf (((itemsD e)[1]?).getD .none), intOf (((itemsD e)[2]?).getD .none))
def folkOf (d : PyData) : List Str := namesD (((itemsD d)[0]?).getD .none)
def waysOf (d : PyData) : List Way := (itemsD (((itemsD d)[1]?).getD .none)).map wayOf
theorem waysD_true {names : List Str} {d : PyData} (h : waysD names d = true) : rowD d = true ∧ (itemsD d).length ≤ 150 ∧ (∀ e ∈ itemsD d, wayD names e = true) ∧ risingD ((itemsD d).map pairOf) = true := by
  unfold waysD at h
  rw [Bool.and_eq_true, Bool.and_eq_true, Bool.and_eq_true, decide_eq_true_eq, List.all_eq_true] at h
  exact ⟨h.1.1.1, h.1.1.2, h.1.2, h.2⟩
theorem webOk_of {H : Hp} {v : V} {d : PyData} (hd : Da H v d) (h : webD d = true) : WebOk (folkOf d) (waysOf d) ∧ ∃ df dw, itemsD d = [df, dw] ∧ folkD df = true ∧ waysD (namesD df) dw = true ∧ folkOf d = namesD df ∧ waysOf d = (itemsD dw).map wayOf := by
  have r : rowOfD 2 d = true := by
    unfold webD at h
    rw [Bool.and_eq_true] at h
    exact h.1
  obtain ⟨rd, df, dw, ei, ew⟩ := webD_two r
  rw [ew, Bool.and_eq_true] at h
  obtain ⟨b, xs, rfl, hs, hl, hi⟩ := hd.items rd
  rw [ei] at hl hi
  obtain ⟨x1, x2, rfl⟩ : ∃ x1 x2, xs = [x1, x2] := by
    match xs, hl with
    | [x1, x2], _ => exact ⟨x1, x2, rfl⟩
  obtain ⟨a, ys, rfl, ha, en, ed, on, l1, l2, up⟩ := folkD_names (hi 0 x1 df rfl rfl) h.1
  obtain ⟨r2, few, each, upw⟩ := waysD_true h.2
  have ef : folkOf d = namesD df := by
    unfold folkOf
    rw [ei]
    rfl
  have eway : waysOf d = (itemsD dw).map wayOf := by
    unfold waysOf
    rw [ei]
    rfl
  refine ⟨⟨by rw [ef]; exact on, by rw [ef]; exact l1, by rw [ef]; exact l2, by rw [ef]; exact up, by rw [eway, List.length_map]; exact few, fun y hy => ?_, ?_⟩, df, dw, ei, h.1, h.2, ef, eway⟩
  · rw [eway] at hy
    obtain ⟨e, he, rfl⟩ := List.mem_map.mp hy
    obtain ⟨_, x, z, n, ie, o1, o2, n1, n2, i1, i2, lt⟩ := wayD_true (each e he)
    have ew : wayOf e = (x, z, n) := by
      unfold wayOf
      rw [ie]
      rfl
    rw [ew, ef]
    exact ⟨o1, o2, n1, n2, i1, i2, lt⟩
  · rw [eway, List.map_map]
    have e : (itemsD dw).map (pairD ∘ wayOf) = (itemsD dw).map pairOf := by
      refine List.map_congr_left fun e he => ?_
      obtain ⟨_, x, z, n, ie, _⟩ := wayD_true (each e he)
      show pairD (wayOf e) = pairOf e
      unfold pairD wayOf pairOf
      rw [ie]
      rfl
    rw [e]
    exact upw
/-! ### own_web -/
theorem scOwnWeb : FnScope ["web", "folk", "ways", "way"] ["web"] (defScope sOwnWeb) := ⟨rfl, rfl, rfl, by decide +kernel, rfl, by decide +kernel, by decide +kernel⟩
/-- a web of the told kinds, all new -/
structure OwnAt (H H' : Hp) (T : Addr) (names : List Str) (ways : List Way) : Prop where
  same : Same H H'
  new : H T = none
  ex : ∃ F W ws, H' T = some (.tup [.ref F, .ref W]) ∧ H F = none ∧ H W = none ∧ H' F = some (.lst (names.map V.str)) ∧ H' W = some (.lst ws) ∧ Ims H' ws (ways.map wayD3)
def spOwnWeb : Sp := fun vs H Q _ => ∃ (v : V) (d : PyData), vs = [v] ∧ Da H v d ∧ webD d = true ∧ ∀ T H', OwnAt H H' T (folkOf d) (waysOf d) → Q (.ref T) H'
def rTupOf (K : PySem.W.Frag) : List V → Hp → VK → Prop := fun xs H Q => ∃ p ys, xs = [V.ref p] ∧ ((SqL K H p ys ∧ ∀ (l : Addr), H l = none → Q (.ref l) (upd H l (.tup ys))) ∨ (SqT K H p ys ∧ Q (.ref p) H))
theorem ok_own_web {f f1 : Addr} {fd fd1 : FuncData} (F : Fun K "own_web" "own_web" sOwnWeb f fd) (B : Blt mg) (D1 : Def K mg "is_web" f1 fd1 ["thing"]) (G1 : FnOk P w K mg base CX0 5 f1 fd1 ["thing"] (spJudge K webD)) : FnOk P w K mg base CX0 6 f fd ["web"] spOwnWeb := by
  refine F.ok scOwnWeb (fun vs H Q E h => ?_) (fun cdv A outer s H vs Q E hr h => ?_)
  · obtain ⟨v, d, rfl, _⟩ := h
    rfl
  · obtain ⟨v, d, rfl, hd, hw, q⟩ := h
    refine ⟨_, pss_cons (ps_if (pt_not (pt_val (pe_call G1 hr (by rfl) D1.at_ D1.kp D1.b .nil pass0 (pa_cons (pv 0) pa_nil)))) (pss_one ps_never) pss_nil)
      (pss_cons (ps_asg (pv 0) (pg_row rfl (pgs_cons (pg_name (i := 1) scOwnWeb.nd rfl (Or.inl rfl)) (pgs_cons (pg_name (i := 2) scOwnWeb.nd rfl (Or.inl rfl)) pgs_nil))))
      (pss_one (ps_ret (pe_tup (pa_cons (pe_callTy call_list_of (by rfl) B.list (by decide +kernel) (pa_cons (pv 1) pa_nil)) (pa_cons
        (pe_lc (own := [("way", 3)]) (g := gName 3) (tt := tYes) (te := tCB (rTupOf K) (tCons (tVar 3) tNil)) rfl scOwnWeb.nd (pi_row (pv 2)) (blkOk_by (N := ["web", "folk", "ways", "way"]) (sc := defScope sOwnWeb) (by decide +kernel))
          (fun _ _ _ _ _ => pg_name (i := 3) scOwnWeb.nd rfl (Or.inl rfl)) (fun _ _ _ _ _ => pts_nil) (fun _ _ _ _ _ => pe_callTy call_tuple_of (by rfl) B.tuple (by decide +kernel) (pa_cons (pv 3) pa_nil))) pa_nil)))))), ?_⟩
    refine ⟨_, rfl, v, d, rfl, hd, fun H1 s1 => ⟨_, rfl, ?_⟩⟩
    rw [hw]
    refine iteF ?_
    obtain ⟨_, df, dw, ei, hf, hws, e1, e2⟩ := webOk_of hd hw
    rw [e1, e2] at q
    have r : rowD d = true := by
      unfold webD at hw
      rw [Bool.and_eq_true] at hw
      exact (by simpa [rowOfD] using hw.1 : rowD d = true ∧ _).1
    obtain ⟨b, xs, rfl, hs, hl, hi⟩ := (hd.on s1).items r
    rw [ei] at hl hi
    obtain ⟨x1, x2, rfl⟩ : ∃ x1 x2, xs = [x1, x2] := by
      match xs, hl with
      | [x1, x2], _ => exact ⟨x1, x2, rfl⟩
    obtain ⟨a, ys, rfl, ha, en, _⟩ := folkD_names (hi 0 x1 df rfl rfl) hf
    obtain ⟨rw_, few, each, _⟩ := waysD_true hws
    obtain ⟨c, zs, rfl, hc, hcl, hci⟩ := (hi 1 x2 dw rfl rfl).items rw_
    refine ⟨_, rfl, b, _, rfl, seq_of hs, rfl, _, _, rfl, _, _, rfl, rfl, ?_⟩
    -- list(folk)
    refine ⟨_, rfl, a, ys, rfl, seq_of ha, fun F nF => ?_⟩
    have sF : Same H1 (upd H1 F (.lst ys)) := same_new nF
    -- [tuple(way) for way in ways]
    refine ⟨_, rfl, c, rfl, ?_⟩
    have item : ∀ (J : It) (D : Addr), Walk J zs.length (fun H3 => Same (upd H1 F (.lst ys)) H3) (YAt zs) → (upd H1 F (.lst ys)) D = none → ∀ Qd : Hp → Prop,
        (∀ H3 ws, Same (upd H1 F (.lst ys)) H3 → H3 D = some (.lst ws) → Ims H3 ws (((itemsD dw).map wayOf).map wayD3) → Qd H3) →
        ∃ W : Nat → Nat → Hp → Prop, (∃ m, W 0 m (upd (upd H1 F (.lst ys)) D (.lst []))) ∧ ∀ i m H, W i m H → (J.stop i H ∧ Qd H) ∨
          (J.go i H ∧ ∃ Nx : Hp → Prop, (∀ H', Nx H' → ∃ m', m' < m ∧ W (i + 1) m' H') ∧ ∀ x H', J.yld i H x H' → gName 3 x (wipe [some (V.ref b), some (V.ref a), some (V.ref c), none] [3]) H' fun σ2 H2 =>
            wipe σ2 [3] = wipe [some (V.ref b), some (V.ref a), some (V.ref c), none] [3] ∧ tYes σ2 H2 fun b H3 => if b = true then tCB (rTupOf K) (tCons (tVar 3) tNil) σ2 H3 fun y H4 => ∃ acc, H4 D = some (.lst acc) ∧ acc.length < sizeLine ∧ Nx (upd H4 D (.lst (acc ++ [y]))) else Nx H3) := by
      intro J D wk nD Qd hQd
      refine lc_gen wk TS (fun _ H => Same (upd H1 F (.lst ys)) H) (fun i y H => ∀ e, (itemsD dw)[i]? = some e → Im H y (wayD3 (wayOf e))) (by rw [hcl]; exact Nat.le_trans few (by decide)) (fun H acc acc' h => TS.lst h) (fun i H acc acc' _ gd => same_at gd nD)
        (fun j y H H' t h e ee => (h e ee).on t) (same_new nD) (fun i H gd => gd) (fun i y H3 H4 acc Z hi2 s3 hacc hy k => ?_) (fun H3 ws s3 h3 hlen hR => ?_)
      · obtain ⟨rfl, ey⟩ := hy
        obtain ⟨e, ee⟩ : ∃ e, (itemsD dw)[i]? = some e := ⟨_, List.getElem?_eq_getElem (show i < (itemsD dw).length by omega)⟩
        obtain ⟨re, x, z, n, ie, _⟩ := wayD_true (each e (List.mem_of_getElem? ee))
        obtain ⟨p, us, rfl, hp, hpl, hpi⟩ := (((hci i y e ey ee).on sF).on s3).items re
        rw [ie] at hpl hpi
        obtain ⟨u1, u2, u3, rfl⟩ : ∃ u1 u2 u3, us = [u1, u2, u3] := by
          match us, hpl with
          | [u1, u2, u3], _ => exact ⟨u1, u2, u3, rfl⟩
        obtain rfl : u1 = .str x := by
          cases hpi 0 u1 (.str x) rfl rfl
          rfl
        obtain rfl : u2 = .str z := by
          cases hpi 1 u2 (.str z) rfl rfl
          rfl
        obtain rfl : u3 = .int n := by
          cases hpi 2 u3 (.int n) rfl rfl
          rfl
        have ew : wayD3 (wayOf e) = .tuple [.str x, .str z, .int n] := by
          unfold wayD3 wayOf
          rw [ie]
          rfl
        refine ⟨rfl, _, rfl, p, [.str x, .str z, .int n], rfl, ?_⟩
        rcases hp with hp | hp
        · refine .inl ⟨SqL.of hp, fun l nl => ?_⟩
          refine k _ _ ((same_new nl) _ _ hacc) (TS.new nl) (s3.trans (same_new nl)) fun e' ee' => ?_
          cases ee.symm.trans ee'
          rw [ew]
          exact .tup upd_same (.cons (.str x) (.cons (.str z) (.cons (.int n) .nil)))
        · refine .inr ⟨SqT.of hp, ?_⟩
          refine k _ _ hacc (TS.refl _) s3 fun e' ee' => ?_
          cases ee.symm.trans ee'
          rw [ew]
          exact .tup hp (.cons (.str x) (.cons (.str z) (.cons (.int n) .nil)))
      · refine hQd H3 ws s3 h3 (Ims.of (by rw [List.length_map, List.length_map, hlen, hcl]) fun i v' d' e1 e2 => ?_)
        rw [List.map_map, List.getElem?_map] at e2
        cases ee : (itemsD dw)[i]? with
        | none =>
          rw [ee] at e2
          cases e2
        | some e =>
          rw [ee] at e2
          cases e2
          exact hR i v' e1 e ee
    have fin : ∀ D, (upd H1 F (.lst ys)) D = none → ∀ H3 ws, Same (upd H1 F (.lst ys)) H3 → H3 D = some (.lst ws) → Ims H3 ws (((itemsD dw).map wayOf).map wayD3) → ([V.ref F, V.ref D].length ≤ sizeLine ∧ ∀ p, H3 p = none → Q (.ref p) (upd H3 p (.tup [.ref F, .ref D]))) := by
      intro D nD H3 ws s3 h3 im
      refine ⟨by show 2 ≤ sizeLine; decide, fun T nT => q T _ ?_⟩
      have sT : Same H3 (upd H3 T (.tup [.ref F, .ref D])) := same_new nT
      have sAll : Same H H3 := (s1.trans sF).trans s3
      refine ⟨sAll.trans sT, sAll.free nT, F, D, ws, upd_same, s1.free nF, (s1.trans sF).free nD, ?_, sT _ _ h3, im.on (TS.same sT)⟩
      rw [← en]
      exact sT _ _ (s3 _ _ upd_same)
    rcases hc with hc | hc
    · exact .inl ⟨⟨zs, sF.seq (SqL.of hc)⟩, fun D nD => item _ D (walk_list.mono (fun H2 s2 => s2.seq (sF.seq (SqL.of hc))) fun _ _ _ _ _ _ y => y) nD _ (fin D nD)⟩
    · exact .inr ⟨⟨zs, sqT_same sF (SqT.of hc)⟩, fun D nD => item _ D (walk_tup.mono (fun H2 s2 => sqT_same s2 (sqT_same sF (SqT.of hc))) fun _ _ _ _ _ _ y => y) nD _ (fin D nD)⟩
end
end Cry
/-! Places: beats_between, person, place_on, numbers_beside. -/
namespace Cry
open PySem PySem.Spec PyProof.Rows L2
theorem abc_small : ∀ c ∈ abc.cps.toList, c < 0x110000 := by decide +kernel
theorem name_strOk {x : Str} (h : nameOkS x = true) : PySem.PyData.strOk x = true := by
  unfold nameOkS at h
  rw [Bool.and_eq_true, List.all_eq_true] at h
  unfold PySem.PyData.strOk
  rw [Array.all_eq_true_iff_forall_mem]
  intro c hc
  exact decide_eq_true (abc_small c (of_decide_eq_true (h.2 c (by simpa using hc))))
theorem beq_str (x y : Str) : (x == y) = decide (x = y) := by
  by_cases h : x = y
  · rw [h]
    simp
  · rw [decide_eq_false h]
    exact beq_eq_false_iff_ne.mpr h
theorem eqv_place (p q : Way) : PyData.eqv (wayD3 p) (wayD3 q) = decide (p = q) := by
  obtain ⟨a, b, n⟩ := p
  obtain ⟨c, d, m⟩ := q
  show PyData.eqv (.tuple [.str a, .str b, .int n]) (.tuple [.str c, .str d, .int m]) = _
  simp only [PyData.eqv, PyData.eqvAll, beq_str, Bool.and_true]
  by_cases h1 : a = c <;> by_cases h2 : b = d <;> by_cases h3 : n = m <;> simp [h1, h2, h3]
theorem shaped_place {p : Way} (h1 : nameOkS p.1 = true) (h2 : nameOkS p.2.1 = true) : SeqAt.shaped (wayD3 p) = true := by
  obtain ⟨a, b, n⟩ := p
  show SeqAt.shaped (.tuple [.str a, .str b, .int n]) = true
  unfold SeqAt.shaped
  simp [PyData.canLay0, PyData.canLayAll0, name_strOk h1, name_strOk h2, PyData.depth, PyData.depthAll]
/-- the tuple that stands for a place, or for a way -/
theorem im_way {H : Hp} {v : V} {y : Way} (h : Im H v (wayD3 y)) : ∃ a, v = .ref a ∧ H a = some (.tup [.str y.1, .str y.2.1, .int y.2.2]) := by
  obtain ⟨a, b, n⟩ := y
  cases h with
  | tup h s =>
    rename_i p xs
    cases s with
    | cons h1 s =>
      cases h1
      cases s with
      | cons h2 s =>
        cases h2
        cases s with
        | cons h3 s =>
          cases h3
          cases s
          exact ⟨_, rfl, h⟩
theorem way_im {H : Hp} {a : Addr} {y : Way} (h : H a = some (.tup [.str y.1, .str y.2.1, .int y.2.2])) : Im H (.ref a) (wayD3 y) := .tup h (.cons (.str _) (.cons (.str _) (.cons (.int _) .nil)))
section
variable {P : Program} {w : World} {K : PySem.W.Frag} {mg : Str → Option Value} {base : Heap}
def personP (x : Str) : Way := (x, x, 0)
def gives (H : Hp) (Q : VK) (d : PyData) : Prop := ∀ v H', Same H H' → Im H' v d → Q v H'
theorem dec_int (i j : Int) : decide (V.int i = V.int j) = decide (i = j) := by
  by_cases h : i = j
  · rw [h]
    simp
  · rw [decide_eq_false h]
    exact decide_eq_false fun z => h (V.int.inj z)
theorem dec_str (x y : Str) : decide (V.str x = V.str y) = decide (x = y) := by
  by_cases h : x = y
  · rw [h]
    simp
  · rw [decide_eq_false h]
    exact decide_eq_false fun z => h (V.str.inj z)
/-! ### beats_between -/
def between (ways : List Way) (x y : Str) : Int := ((ways.find? fun z => decide (z.1 = x) && decide (z.2.1 = y)).map fun z => z.2.2).getD 0
/-- a web of the told kinds stands at T -/
def WebAt (H : Hp) (T : Addr) (names : List Str) (ways : List Way) : Prop := ∃ F W ws, H T = some (.tup [.ref F, .ref W]) ∧ H F = some (.lst (names.map V.str)) ∧ H W = some (.lst ws) ∧ Ims H ws (ways.map wayD3)
theorem WebAt.on {H H' : Hp} {T : Addr} {names : List Str} {ways : List Way} (s : Same H H') (h : WebAt H T names ways) : WebAt H' T names ways := by
  obtain ⟨F, W, ws, h1, h2, h3, h4⟩ := h
  exact ⟨F, W, ws, s _ _ h1, s _ _ h2, s _ _ h3, h4.on (TS.same s)⟩
theorem OwnAt.web {H H' : Hp} {T : Addr} {names : List Str} {ways : List Way} (h : OwnAt H H' T names ways) : WebAt H' T names ways := by
  obtain ⟨F, W, ws, h1, _, _, h2, h3, h4⟩ := h.ex
  exact ⟨F, W, ws, h1, h2, h3, h4⟩
theorem scBetween : FnScope ["web", "one", "other", "first", "second", "beats"] ["web", "one", "other"] (defScope sBetween) := ⟨rfl, rfl, rfl, by decide +kernel, rfl, by decide +kernel, by decide +kernel⟩
def spBetween : Sp := fun vs H Q _ => ∃ (T : Addr) (x y : Str) (names : List Str) (ways : List Way), vs = [.ref T, .str x, .str y] ∧ WebAt H T names ways ∧ Q (.int (between ways x y)) H
theorem between_take {ways : List Way} {x y : Str} {i : Nat} {z : Way} (h : ways[i]? = some z) (no : ∀ (j : Nat) u, j < i → ways[j]? = some u → ¬ (u.1 = x ∧ u.2.1 = y)) (e : z.1 = x ∧ z.2.1 = y) : between ways x y = z.2.2 := by
  unfold between
  have f : ways.find? (fun z => decide (z.1 = x) && decide (z.2.1 = y)) = some z := by
    rw [List.find?_eq_some_iff_getElem]
    obtain ⟨hi, hz⟩ := List.getElem?_eq_some_iff.mp h
    refine ⟨by simp [e.1, e.2], i, hi, hz, fun j hj => ?_⟩
    have := no j ways[j] hj (List.getElem?_eq_getElem (by omega))
    by_cases h1 : ways[j].1 = x <;> by_cases h2 : ways[j].2.1 = y <;> simp_all
  rw [f]
  rfl
theorem between_none {ways : List Way} {x y : Str} (no : ∀ u ∈ ways, ¬ (u.1 = x ∧ u.2.1 = y)) : between ways x y = 0 := by
  unfold between
  have f : ways.find? (fun z => decide (z.1 = x) && decide (z.2.1 = y)) = none := by
    rw [List.find?_eq_none]
    intro u hu
    simpa using no u hu
  rw [f]
  rfl
theorem ok_between {f : Addr} {fd : FuncData} (F : Fun K "beats_between" "beats_between" sBetween f fd) : FnOk P w K mg base CX0 1 f fd ["web", "one", "other"] spBetween := by
  refine F.ok scBetween (fun vs H Q E h => ?_) (fun cdv A outer s H vs Q E hr h => ?_)
  · obtain ⟨T, x, y, names, ways, rfl, _⟩ := h
    rfl
  · obtain ⟨T, x, y, names, ways, rfl, ⟨F', W, ws, hT, hF, hW, hI⟩, q⟩ := h
    refine ⟨_, pss_cons (ps_for PassesOwn.never rfl (pi_list (pe_ix ix_tup (pv 0) pe_int (fun _ _ => rfl))) (pg_tup rfl (pgs_cons (pg_name (i := 3) scBetween.nd rfl (Or.inl rfl)) (pgs_cons (pg_name (i := 4) scBetween.nd rfl (Or.inl rfl)) (pgs_cons (pg_name (i := 5) scBetween.nd rfl (Or.inl rfl)) pgs_nil))))
        (pss_one (ps_if (PW.pt (pw_and (pt_cmpR op_eq (pv 3) (pv 1) (nomark _)) (pw_and1 (pt_cmpR op_eq (pv 4) (pv 2) (nomark _))))) (pss_one (ps_ret (pv 5))) pss_nil)))
      (pss_one (ps_ret pe_int)), ?_⟩
    have lw := hI.length
    rw [List.length_map] at lw
    refine ⟨_, rfl, T, _, 1, _, rfl, rfl, SqT.of hT, atI_nat (j := 1) rfl, W, rfl, ⟨_, SqL.of hW⟩, for_list (K := K) (a := W) (xs := ws) (fun i σ H2 => H2 = H ∧ (∃ u1 u2 u3, σ = [some (.ref T), some (.str x), some (.str y), u1, u2, u3]) ∧ ∀ (j : Nat) u, j < i → ways[j]? = some u → ¬ (u.1 = x ∧ u.2.1 = y))
      ⟨rfl, ⟨none, none, none, rfl⟩, fun j u hj => absurd hj (Nat.not_lt_zero _)⟩ (fun i σ H2 _ ⟨e, _⟩ => by rw [e]; exact SqL.of hW) ?_ ?_⟩
    · rintro i v σ H2 hv ⟨rfl, ⟨u1, u2, u3, rfl⟩, no⟩
      obtain ⟨d, ed, im⟩ := Ims.at hI hv
      rw [List.getElem?_map] at ed
      obtain ⟨z, ez, rfl⟩ : ∃ z, ways[i]? = some z ∧ wayD3 z = d := by
        cases h : ways[i]? with
        | none =>
          rw [h] at ed
          cases ed
        | some z =>
          rw [h] at ed
          exact ⟨z, rfl, Option.some.inj ed⟩
      obtain ⟨a, rfl, ha⟩ := im_way im
      refine ⟨a, _, rfl, SqT.of ha, rfl, _, _, rfl, _, _, rfl, _, _, rfl, rfl, ?_⟩
      have step : ∀ u1 u2 u3, ¬ (z.1 = x ∧ z.2.1 = y) → H2 = H2 ∧ (∃ w1 w2 w3, [some (V.ref T), some (.str x), some (.str y), u1, u2, u3] = [some (V.ref T), some (.str x), some (.str y), w1, w2, w3]) ∧ ∀ (j : Nat) u, j < i + 1 → ways[j]? = some u → ¬ (u.1 = x ∧ u.2.1 = y) :=
        fun u1 u2 u3 ne => ⟨rfl, ⟨_, _, _, rfl⟩, fun j u hj hu => by
          by_cases h : j < i
          · exact no j u h hu
          · have : j = i := by omega
            rw [this, ez] at hu
            cases hu
            exact ne⟩
      refine ⟨_, rfl, _, rfl, rfl, _, rfl, ?_⟩
      rw [dec_str]
      by_cases e1 : z.1 = x
      · rw [decide_eq_true e1]
        refine iteT ⟨_, rfl, _, rfl, rfl, _, rfl, ?_⟩
        rw [dec_str]
        by_cases e2 : z.2.1 = y
        · rw [decide_eq_true e2]
          refine iteT ⟨_, rfl, ?_⟩
          rw [between_take ez no ⟨e1, e2⟩] at q
          exact q
        · rw [decide_eq_false e2]
          exact iteF (step _ _ _ fun z => e2 z.2)
      · rw [decide_eq_false e1]
        exact iteF (iteF (step _ _ _ fun z => e1 z.1))
    · rintro σ H2 ⟨rfl, ⟨u1, u2, u3, rfl⟩, no⟩
      have : between ways x y = 0 := between_none fun u hu => by
        obtain ⟨j, hj⟩ := List.getElem?_of_mem hu
        have lt : j < ways.length := (List.getElem?_eq_some_iff.mp hj).1
        exact no j u (by omega) hj
      rw [this] at q
      exact q
end
end Cry
/-! Places: beats_between, person, place_on, numbers_beside. -/
namespace Cry
open PySem PySem.Spec PyProof.Rows L2
section
variable {P : Program} {w : World} {K : PySem.W.Frag} {mg : Str → Option Value} {base : Heap}
/-! ### person -/
theorem scPerson : FnScope ["name"] ["name"] (defScope sPerson) := ⟨rfl, rfl, rfl, by decide +kernel, rfl, by decide +kernel, by decide +kernel⟩
def spPerson : Sp := fun vs H Q _ => ∃ x : Str, vs = [.str x] ∧ gives H Q (wayD3 (personP x))
theorem ok_person {f : Addr} {fd : FuncData} (F : Fun K "person" "person" sPerson f fd) : FnOk P w K mg base CX0 1 f fd ["name"] spPerson := by
  refine F.ok scPerson (fun vs H Q E h => ?_) (fun cdv A outer s H vs Q E hr h => ?_)
  · obtain ⟨x, rfl, _⟩ := h
    rfl
  · obtain ⟨x, rfl, q⟩ := h
    refine ⟨_, pss_one (ps_ret (pe_tup (pa_cons (pv 0) (pa_cons (pv 0) (pa_cons pe_int pa_nil))))), ?_⟩
    exact ⟨_, rfl, _, rfl, by show 3 ≤ sizeLine; decide, fun T nT => q _ _ (same_new nT) (way_im upd_same)⟩
/-! ### place_on -/
def placeOn (y : Way) (n : Int) : Way := if n = 0 then personP y.1 else if n = y.2.2 then personP y.2.1 else (y.1, y.2.1, n)
theorem scPlaceOn : FnScope ["way", "number", "one", "other", "beats"] ["way", "number"] (defScope sPlaceOn) := ⟨rfl, rfl, rfl, by decide +kernel, rfl, by decide +kernel, by decide +kernel⟩
def spPlaceOn : Sp := fun vs H Q _ => ∃ (v : V) (y : Way) (n : Int), vs = [v, .int n] ∧ Im H v (wayD3 y) ∧ gives H Q (wayD3 (placeOn y n))
theorem ok_place_on {f f1 : Addr} {fd fd1 : FuncData} (F : Fun K "place_on" "place_on" sPlaceOn f fd) (D1 : Def K mg "person" f1 fd1 ["name"]) (G1 : FnOk P w K mg base CX0 1 f1 fd1 ["name"] spPerson) : FnOk P w K mg base CX0 2 f fd ["way", "number"] spPlaceOn := by
  refine F.ok scPlaceOn (fun vs H Q E h => ?_) (fun cdv A outer s H vs Q E hr h => ?_)
  · obtain ⟨v, y, n, rfl, _⟩ := h
    rfl
  · obtain ⟨v, y, n, rfl, hv, q⟩ := h
    refine ⟨_, pss_cons (ps_asg (pv 0) (pg_tup rfl (pgs_cons (pg_name (i := 2) scPlaceOn.nd rfl (Or.inl rfl)) (pgs_cons (pg_name (i := 3) scPlaceOn.nd rfl (Or.inl rfl)) (pgs_cons (pg_name (i := 4) scPlaceOn.nd rfl (Or.inl rfl)) pgs_nil)))))
      (pss_cons (ps_if (pt_cmpR op_eq (pv 1) pe_int (nomark _)) (pss_one (ps_ret (pe_call G1 hr (by rfl) D1.at_ D1.kp D1.b .nil pass0 (pa_cons (pv 2) pa_nil)))) pss_nil)
      (pss_cons (ps_if (pt_cmpR op_eq (pv 1) (pv 4) (nomark _)) (pss_one (ps_ret (pe_call G1 hr (by rfl) D1.at_ D1.kp D1.b .nil pass0 (pa_cons (pv 3) pa_nil)))) pss_nil)
      (pss_one (ps_ret (pe_tup (pa_cons (pv 2) (pa_cons (pv 3) (pa_cons (pv 1) pa_nil)))))))), ?_⟩
    obtain ⟨a, rfl, ha⟩ := im_way hv
    refine ⟨_, rfl, a, _, rfl, SqT.of ha, rfl, _, _, rfl, _, _, rfl, _, _, rfl, rfl, ?_⟩
    unfold placeOn at q
    refine ⟨_, rfl, rfl, _, rfl, ?_⟩
    rw [dec_int]
    by_cases h0 : n = 0
    · rw [decide_eq_true h0]
      rw [if_pos h0] at q
      exact iteT ⟨_, rfl, _, rfl, q⟩
    · rw [decide_eq_false h0]
      rw [if_neg h0] at q
      refine iteF ?_
      refine ⟨_, rfl, _, rfl, rfl, _, rfl, ?_⟩
      rw [dec_int]
      by_cases h1 : n = y.2.2
      · rw [decide_eq_true h1]
        rw [if_pos h1] at q
        exact iteT ⟨_, rfl, _, rfl, q⟩
      · rw [decide_eq_false h1]
        rw [if_neg h1] at q
        refine iteF ?_
        exact ⟨_, rfl, _, rfl, _, rfl, by show 3 ≤ sizeLine; decide, fun T nT => q _ _ (same_new nT) (way_im upd_same)⟩
/-! ### numbers_beside -/
def numbersBeside (y p : Way) : List Int := if p = personP y.1 then [1] else if p = personP y.2.1 then [y.2.2 - 1] else if p.1 = y.1 ∧ p.2.1 = y.2.1 then [p.2.2 - 1, p.2.2 + 1] else []
theorem scNumbers : FnScope ["way", "place", "one", "other", "beats"] ["way", "place"] (defScope sNumbers) := ⟨rfl, rfl, rfl, by decide +kernel, rfl, by decide +kernel, by decide +kernel⟩
def spNumbers : Sp := fun vs H Q _ => ∃ (v u : V) (y p : Way), vs = [v, u] ∧ Im H v (wayD3 y) ∧ Im H u (wayD3 p) ∧ nameOkS y.1 = true ∧ nameOkS y.2.1 = true ∧ nameOkS p.1 = true ∧ nameOkS p.2.1 = true ∧
  ∀ l H', Same H H' → H l = none → H' l = some (.lst ((numbersBeside y p).map V.int)) → Q (.ref l) H'
theorem ok_numbers {f f1 : Addr} {fd fd1 : FuncData} (F : Fun K "numbers_beside" "numbers_beside" sNumbers f fd) (D1 : Def K mg "person" f1 fd1 ["name"]) (G1 : FnOk P w K mg base CX0 1 f1 fd1 ["name"] spPerson) : FnOk P w K mg base CX0 2 f fd ["way", "place"] spNumbers := by
  refine F.ok scNumbers (fun vs H Q E h => ?_) (fun cdv A outer s H vs Q E hr h => ?_)
  · obtain ⟨v, u, y, p, rfl, _⟩ := h
    rfl
  · obtain ⟨v, u, y, p, rfl, hv, hu, o1, o2, o3, o4, q⟩ := h
    refine ⟨_, pss_cons (ps_asg (pv 0) (pg_tup rfl (pgs_cons (pg_name (i := 2) scNumbers.nd rfl (Or.inl rfl)) (pgs_cons (pg_name (i := 3) scNumbers.nd rfl (Or.inl rfl)) (pgs_cons (pg_name (i := 4) scNumbers.nd rfl (Or.inl rfl)) pgs_nil)))))
      (pss_cons (ps_if (pt_cmpR (op_eqD hr.units) (pv 1) (pe_call G1 hr (by rfl) D1.at_ D1.kp D1.b .nil pass0 (pa_cons (pv 2) pa_nil)) (nomark _)) (pss_one (ps_ret (pe_lst (pa_cons pe_int pa_nil)))) pss_nil)
      (pss_cons (ps_if (pt_cmpR (op_eqD hr.units) (pv 1) (pe_call G1 hr (by rfl) D1.at_ D1.kp D1.b .nil pass0 (pa_cons (pv 3) pa_nil)) (nomark _)) (pss_one (ps_ret (pe_lst (pa_cons (pe_op op_sub (pv 4) pe_int) pa_nil)))) pss_nil)
      (pss_cons (ps_if (PW.pt (pw_and (pt_cmpR op_eq (pe_ix ix_tup (pv 1) pe_int (fun _ _ => rfl)) (pv 2) (nomark _)) (pw_and1 (pt_cmpR op_eq (pe_ix ix_tup (pv 1) pe_int (fun _ _ => rfl)) (pv 3) (nomark _)))))
          (pss_one (ps_ret (pe_lst (pa_cons (pe_op op_sub (pe_ix ix_tup (pv 1) pe_int (fun _ _ => rfl)) pe_int) (pa_cons (pe_op op_add (pe_ix ix_tup (pv 1) pe_int (fun _ _ => rfl)) pe_int) pa_nil))))) pss_nil)
      (pss_one (ps_ret (pe_lst pa_nil)))))), ?_⟩
    obtain ⟨a, rfl, ha⟩ := im_way hv
    obtain ⟨b, rfl, hb⟩ := im_way hu
    unfold numbersBeside at q
    refine ⟨_, rfl, a, _, rfl, SqT.of ha, rfl, _, _, rfl, _, _, rfl, _, _, rfl, rfl, ?_⟩
    -- place == person(one)
    refine ⟨_, rfl, _, rfl, _, rfl, fun v1 H1 s1 m1 => ?_⟩
    refine ⟨_, _, (way_im (s1 _ _ hb)).dp, m1.dp, shaped_place o3 o4, shaped_place o1 o1, _, rfl, ?_⟩
    rw [eqv_place]
    by_cases e1 : p = personP y.1
    · rw [decide_eq_true e1]
      rw [if_pos e1] at q
      exact iteT ⟨by show 1 ≤ sizeLine; decide, fun l nl => q l _ (s1.trans (same_new nl)) (s1.free nl) upd_same⟩
    · rw [decide_eq_false e1]
      rw [if_neg e1] at q
      refine iteF ?_
      refine ⟨_, rfl, _, rfl, _, rfl, fun v2 H2 s2 m2 => ?_⟩
      have s12 := s1.trans s2
      refine ⟨_, _, (way_im (s12 _ _ hb)).dp, m2.dp, shaped_place o3 o4, shaped_place o2 o2, _, rfl, ?_⟩
      rw [eqv_place]
      by_cases e2 : p = personP y.2.1
      · rw [decide_eq_true e2]
        rw [if_pos e2] at q
        exact iteT ⟨_, rfl, _, _, rfl, rfl, by show 1 ≤ sizeLine; decide, fun l nl => q l _ (s12.trans (same_new nl)) (s12.free nl) upd_same⟩
      · rw [decide_eq_false e2]
        rw [if_neg e2] at q
        refine iteF ?_
        have hb2 : SqT K H2 b [.str p.1, .str p.2.1, .int p.2.2] := SqT.of (s12 _ _ hb)
        refine ⟨_, rfl, b, _, 0, _, rfl, rfl, hb2, atI_nat (j := 0) rfl, _, rfl, rfl, _, rfl, ?_⟩
        rw [dec_str]
        by_cases e3 : p.1 = y.1
        · rw [decide_eq_true e3]
          refine iteT ?_
          refine ⟨_, rfl, b, _, 1, _, rfl, rfl, hb2, atI_nat (j := 1) rfl, _, rfl, rfl, _, rfl, ?_⟩
          rw [dec_str]
          by_cases e4 : p.2.1 = y.2.1
          · rw [decide_eq_true e4]
            rw [if_pos ⟨e3, e4⟩] at q
            refine iteT ?_
            refine ⟨_, rfl, b, _, 2, _, rfl, rfl, hb2, atI_nat (j := 2) rfl, _, _, rfl, rfl, ?_⟩
            refine ⟨_, rfl, b, _, 2, _, rfl, rfl, hb2, atI_nat (j := 2) rfl, _, _, rfl, rfl, by show 2 ≤ sizeLine; decide, fun l nl => q l _ (s12.trans (same_new nl)) (s12.free nl) upd_same⟩
          · rw [decide_eq_false e4]
            rw [if_neg fun z => e4 z.2] at q
            exact iteF ⟨Nat.zero_le _, fun l nl => q l _ (s12.trans (same_new nl)) (s12.free nl) upd_same⟩
        · rw [decide_eq_false e3]
          rw [if_neg fun z => e3 z.1] at q
          exact iteF (iteF ⟨Nat.zero_le _, fun l nl => q l _ (s12.trans (same_new nl)) (s12.free nl) upd_same⟩)
end
end Cry
/-! is_place, own_place, places_beside, neighbours. -/
namespace Cry
open PySem PySem.Spec PyProof.Rows L2
/-! ### sorted data -/
def sortD (ds : List PyData) : List PyData := ds.mergeSort (PySem.W.dataLe false id)
theorem sorted_ims {H : Hp} {vs : List V} {ds : List PyData} (h : Ims H vs ds) : Ims H (((vs.zip ds).mergeSort (PySem.W.dataLe false Prod.snd)).map Prod.fst) (sortD ds) := by
  have hl := h.length
  have e2 : ((vs.zip ds).mergeSort (PySem.W.dataLe false Prod.snd)).map Prod.snd = sortD ds := by
    unfold sortD
    have t := PySem.W.sort_maps (r := PySem.W.dataLe false (Prod.snd : V × PyData → PyData)) (s := PySem.W.dataLe false id) Prod.snd (l := vs.zip ds) (fun _ _ _ _ => rfl)
    rw [t, List.map_snd_zip (by omega)]
  rw [← e2]
  refine Ims.of (by simp) fun i v d h1 h2 => ?_
  rw [List.getElem?_map] at h1 h2
  cases e : ((vs.zip ds).mergeSort (PySem.W.dataLe false Prod.snd))[i]? with
  | none =>
    rw [e] at h1
    cases h1
  | some b =>
    rw [e] at h1 h2
    cases h1
    cases h2
    have m : b ∈ vs.zip ds := (List.mergeSort_perm _ _).mem_iff.mp (List.mem_of_getElem? e)
    obtain ⟨j, hj⟩ := List.getElem?_of_mem m
    obtain ⟨k1, k2⟩ := List.getElem?_zip_eq_some.mp hj
    obtain ⟨d, ed, im⟩ := Ims.at h k1
    rw [k2] at ed
    cases ed
    exact im
theorem places_alike (ps : List Way) : PySem.W.AllAlike (ps.map wayD3) := fun d hd e he => by
  obtain ⟨x, _, rfl⟩ := List.mem_map.mp hd
  obtain ⟨y, _, rfl⟩ := List.mem_map.mp he
  rfl
theorem places_sortable (ps : List Way) : PySem.W.Sortable (ps.map wayD3) := .inl fun d hd => by
  obtain ⟨x, _, rfl⟩ := List.mem_map.mp hd
  exact ⟨_, _, rfl⟩
theorem place_depth (p : Way) : (wayD3 p).depth ≤ 20 := by
  show PyData.depth (.tuple [.str p.1, .str p.2.1, .int p.2.2]) ≤ 20
  simp [PyData.depth, PyData.depthAll]
section
variable {P : Program} {w : World} {K : PySem.W.Frag} {mg : Str → Option Value} {base : Heap}
/-! ### is_place -/
theorem scIsPlace : FnScope ["web", "thing", "one", "other", "number"] ["web", "thing"] (defScope sIsPlace) := ⟨rfl, rfl, rfl, by decide +kernel, rfl, by decide +kernel, by decide +kernel⟩
def placeIn (names : List Str) (ways : List Way) : PyData → PyData → PyData → Bool
  | .str x, .str y, .int n => nameOkS x && nameOkS y && (if x = y then inNames x names && decide (n = 0) else decide (1 ≤ n) && decide (n < between ways x y))
  | _, _, _ => false
def placeOk (names : List Str) (ways : List Way) (d : PyData) : Bool :=
  rowOfD 3 d && match itemsD d with
    | [a, b, c] => placeIn names ways a b c
    | _ => false
def spIsPlace : Sp := fun vs H Q _ => ∃ (T : Addr) (names : List Str) (ways : List Way) (v : V) (d : PyData), vs = [.ref T, v] ∧ WebAt H T names ways ∧ Da H v d ∧ ∀ H', Same H H' → Q (.bl (placeOk names ways d)) H'
theorem ok_is_place {f f1 f5 : Addr} {fd fd1 fd5 : FuncData} (F : Fun K "is_place" "is_place" sIsPlace f fd) (T : FormDefs P w K mg base) (D1 : Def K mg "beats_between" f1 fd1 ["web", "one", "other"]) (G1 : FnOk P w K mg base CX0 1 f1 fd1 ["web", "one", "other"] spBetween)
    (D5 : Def K mg "is_whole" f5 fd5 ["thing"]) (G5 : FnOk P w K mg base CX0 1 f5 fd5 ["thing"] (spJudge K wholeD)) : FnOk P w K mg base CX0 3 f fd ["web", "thing"] spIsPlace := by
  refine F.ok scIsPlace (fun vs H Q E h => ?_) (fun cdv A outer s H vs Q E hr h => ?_)
  · obtain ⟨T, names, ways, v, d, rfl, _⟩ := h
    rfl
  · obtain ⟨t, names, ways, v, d, rfl, hw, hd, q⟩ := h
    have hr1 := hr.mono (show 1 ≤ 2 by decide)
    refine ⟨_, pss_cons (ps_if (pt_not (pt_val (pe_call T.G1 hr (by rfl) T.D1.at_ T.D1.kp T.D1.b .nil pass0 (pa_cons pe_int (pa_cons (pv 1) pa_nil))))) (pss_one (ps_ret pe_bl)) pss_nil)
      (pss_cons (ps_asg (pv 1) (pg_row rfl (pgs_cons (pg_name (i := 2) scIsPlace.nd rfl (Or.inl rfl)) (pgs_cons (pg_name (i := 3) scIsPlace.nd rfl (Or.inl rfl)) (pgs_cons (pg_name (i := 4) scIsPlace.nd rfl (Or.inl rfl)) pgs_nil)))))
      (pss_cons (ps_if (pt_not (PW.pt (pw_and (pt_val (pe_call T.G2 hr1 (by rfl) T.D2.at_ T.D2.kp T.D2.b .nil pass0 (pa_cons (pv 2) pa_nil))) (pw_and (pt_val (pe_call T.G2 hr1 (by rfl) T.D2.at_ T.D2.kp T.D2.b .nil pass0 (pa_cons (pv 3) pa_nil)))
          (pw_and1 (pt_val (pe_call G5 hr1 (by rfl) D5.at_ D5.kp D5.b .nil pass0 (pa_cons (pv 4) pa_nil)))))))) (pss_one (ps_ret pe_bl)) pss_nil)
      (pss_cons (ps_if (pt_cmpR op_eq (pv 2) (pv 3) (nomark _)) (pss_one (ps_ret (pe_and (pe_cmpR op_in_seq (pv 2) (pe_ix ix_tup (pv 0) pe_int (fun _ _ => rfl)) rfl) (pe_one (pe_cmpR op_eq (pv 4) pe_int (nomark _)))))) pss_nil)
      (pss_one (ps_ret (pe_chain op_le op_lt pe_int (pv 4) (pe_call G1 hr1 (by rfl) D1.at_ D1.kp D1.b .nil pass0 (pa_cons (pv 0) (pa_cons (pv 2) (pa_cons (pv 3) pa_nil)))))))))), ?_⟩
    refine ⟨_, rfl, 3, v, d, rfl, hd, fun H1 s1 => ⟨_, rfl, ?_⟩⟩
    cases r3 : rowOfD 3 d with
    | false =>
      refine iteT ?_
      have := q H1 s1
      unfold placeOk at this
      rw [r3] at this
      exact this
    | true =>
      refine iteF ?_
      have r3' : rowD d = true ∧ (itemsD d).length = 3 := by simpa [rowOfD] using r3
      obtain ⟨b, xs, rfl, hs, hl, hi⟩ := (hd.on s1).items r3'.1
      obtain ⟨x1, x2, x3, rfl⟩ : ∃ x1 x2 x3, xs = [x1, x2, x3] := by
        rw [r3'.2] at hl
        match xs, hl with
        | [x1, x2, x3], _ => exact ⟨x1, x2, x3, rfl⟩
      obtain ⟨d1, d2, d3, ed⟩ : ∃ d1 d2 d3, itemsD d = [d1, d2, d3] := by
        have h3 := r3'.2
        match itemsD d, h3 with
        | [d1, d2, d3], _ => exact ⟨d1, d2, d3, rfl⟩
      rw [ed] at hi
      have e1 := hi 0 x1 d1 rfl rfl
      have e2 := hi 1 x2 d2 rfl rfl
      have e3 := hi 2 x3 d3 rfl rfl
      have ew : placeOk names ways d = placeIn names ways d1 d2 d3 := by
        unfold placeOk
        rw [r3, ed, Bool.true_and]
      rw [ew] at q
      refine ⟨_, rfl, b, _, rfl, seq_of hs, rfl, _, _, rfl, _, _, rfl, _, _, rfl, rfl, ?_⟩
      have no : ∀ H', Same H H' → placeIn names ways d1 d2 d3 = false → Q (.bl false) H' := fun H' s' e => by
        have := q H' s'
        rw [e] at this
        exact this
      refine ⟨_, rfl, x1, d1, rfl, e1, fun H2 s2 => ⟨_, rfl, ?_⟩⟩
      have s12 := s1.trans s2
      cases n1 : nameD d1 with
      | false =>
        refine iteF (iteT (no H2 s12 ?_))
        cases d1 <;> first | rfl | skip
        cases d2 <;> first | rfl | skip
        cases d3 <;> first | rfl | skip
        show (nameOkS _ && _ && _) = false
        rw [show nameOkS _ = false from n1]
        rfl
      | true =>
        obtain ⟨x, rfl, rfl, ox, _⟩ := nameD_str e1 n1
        refine iteT ⟨_, rfl, x2, d2, rfl, e2.on s2, fun H3 s3 => ⟨_, rfl, ?_⟩⟩
        have s13 := s12.trans s3
        cases n2 : nameD d2 with
        | false =>
          refine iteF (iteT (no H3 s13 ?_))
          cases d2 <;> first | rfl | skip
          cases d3 <;> first | rfl | skip
          show (nameOkS x && nameOkS _ && _) = false
          rw [show nameOkS _ = false from n2, Bool.and_false, Bool.false_and]
        | true =>
          obtain ⟨y, rfl, rfl, oy, _⟩ := nameD_str e2 n2
          refine iteT ⟨_, rfl, x3, d3, rfl, (e3.on s2).on s3, fun H4 s4 => ⟨_, rfl, ?_⟩⟩
          have s14 := s13.trans s4
          cases n3 : wholeD d3 with
          | false =>
            refine iteT (no H4 s14 ?_)
            cases d3 with
            | int n => exact absurd n3 (by simp [wholeD])
            | _ => rfl
          | true =>
            obtain ⟨n, rfl⟩ : ∃ n, d3 = .int n := by
              cases d3 with
              | int n => exact ⟨n, rfl⟩
              | _ => exact absurd n3 (by simp [wholeD])
            obtain rfl : x3 = .int n := by
              cases e3
              rfl
            refine iteF ?_
            have fin := q H4 s14
            have ep : placeIn names ways (.str x) (.str y) (.int n) = (if x = y then inNames x names && decide (n = 0) else decide (1 ≤ n) && decide (n < between ways x y)) := by
              show (nameOkS x && nameOkS y && _) = _
              rw [ox, oy]
              rfl
            rw [ep] at fin
            obtain ⟨F', W', ws, hT, hF, hW, hI⟩ := hw.on s14
            refine ⟨_, rfl, _, rfl, rfl, _, rfl, ?_⟩
            rw [dec_str]
            by_cases exy : x = y
            · rw [decide_eq_true exy]
              rw [if_pos exy] at fin
              refine iteT ⟨_, rfl, _, rfl, t, _, 0, _, rfl, rfl, SqT.of hT, atI_nat (j := 0) rfl, F', _, rfl, .inl (SqL.of hF), rfl, flat_names names, _, rfl, ?_⟩
              cases i1 : inV (.str x) (names.map V.str) with
              | false =>
                refine iteF ?_
                rw [show inNames x names = false from i1] at fin
                exact fin
              | true =>
                refine iteT ⟨_, rfl, rfl, ?_⟩
                rw [show inNames x names = true from i1, Bool.true_and] at fin
                rw [dec_int]
                exact fin
            · rw [decide_eq_false exy]
              rw [if_neg exy] at fin
              refine iteF ⟨_, rfl, _, _, rfl, rfl, _, rfl, ?_⟩
              by_cases h1 : 1 ≤ n
              · rw [decide_eq_true h1]
                rw [decide_eq_true h1, Bool.true_and] at fin
                exact iteT ⟨_, rfl, _, rfl, _, rfl, t, x, y, names, ways, rfl, ⟨F', W', ws, hT, hF, hW, hI⟩, _, _, rfl, rfl, fin⟩
              · rw [decide_eq_false h1]
                rw [decide_eq_false h1, Bool.false_and] at fin
                exact iteF fin
/-! ### own_place -/
theorem scOwnPlace : FnScope ["web", "place"] ["web", "place"] (defScope sOwnPlace) := ⟨rfl, rfl, rfl, by decide +kernel, rfl, by decide +kernel, by decide +kernel⟩
def placeOf (d : PyData) : Way := wayOf d
theorem placeOk_true {names : List Str} {ways : List Way} {d : PyData} (h : placeOk names ways d = true) : rowD d = true ∧ ∃ x y n, itemsD d = [.str x, .str y, .int n] ∧ nameOkS x = true ∧ nameOkS y = true ∧
    (if x = y then inNames x names && decide (n = 0) else decide (1 ≤ n) && decide (n < between ways x y)) = true := by
  unfold placeOk at h
  rw [Bool.and_eq_true] at h
  obtain ⟨h1, h2⟩ := h
  have r : rowD d = true ∧ (itemsD d).length = 3 := by simpa [rowOfD] using h1
  refine ⟨r.1, ?_⟩
  match ei : itemsD d, r.2 with
  | [a, b, c], _ =>
    rw [ei] at h2
    dsimp only at h2
    match a, b, c, h2 with
    | .str x, .str y, .int n, h2 =>
      have h3 : (nameOkS x && nameOkS y && (if x = y then inNames x names && decide (n = 0) else decide (1 ≤ n) && decide (n < between ways x y))) = true := h2
      rw [Bool.and_eq_true, Bool.and_eq_true] at h3
      exact ⟨x, y, n, rfl, h3.1.1, h3.1.2, h3.2⟩
def spOwnPlace : Sp := fun vs H Q _ => ∃ (T : Addr) (names : List Str) (ways : List Way) (v : V) (d : PyData), vs = [.ref T, v] ∧ WebAt H T names ways ∧ Da H v d ∧ placeOk names ways d = true ∧ gives H Q (wayD3 (placeOf d))
theorem ok_own_place {f f1 : Addr} {fd fd1 : FuncData} (F : Fun K "own_place" "own_place" sOwnPlace f fd) (B : Blt mg) (D1 : Def K mg "is_place" f1 fd1 ["web", "thing"]) (G1 : FnOk P w K mg base CX0 3 f1 fd1 ["web", "thing"] spIsPlace) : FnOk P w K mg base CX0 4 f fd ["web", "place"] spOwnPlace := by
  refine F.ok scOwnPlace (fun vs H Q E h => ?_) (fun cdv A outer s H vs Q E hr h => ?_)
  · obtain ⟨T, names, ways, v, d, rfl, _⟩ := h
    rfl
  · obtain ⟨T, names, ways, v, d, rfl, hw, hd, ok, q⟩ := h
    refine ⟨_, pss_cons (ps_if (pt_not (pt_val (pe_call G1 hr (by rfl) D1.at_ D1.kp D1.b .nil pass0 (pa_cons (pv 0) (pa_cons (pv 1) pa_nil))))) (pss_one ps_never) pss_nil)
      (pss_one (ps_ret (pe_callTy call_tuple_of (by rfl) B.tuple (by decide +kernel) (pa_cons (pv 1) pa_nil)))), ?_⟩
    refine ⟨_, rfl, _, rfl, T, names, ways, v, d, rfl, hw, hd, fun H1 s1 => ⟨_, rfl, ?_⟩⟩
    rw [ok]
    refine iteF ?_
    obtain ⟨re, x, y, n, ie, _⟩ := placeOk_true ok
    obtain ⟨p, us, rfl, hp, hpl, hpi⟩ := (hd.on s1).items re
    rw [ie] at hpl hpi
    obtain ⟨u1, u2, u3, rfl⟩ : ∃ u1 u2 u3, us = [u1, u2, u3] := by
      match us, hpl with
      | [u1, u2, u3], _ => exact ⟨u1, u2, u3, rfl⟩
    obtain rfl : u1 = .str x := by
      cases hpi 0 u1 (.str x) rfl rfl
      rfl
    obtain rfl : u2 = .str y := by
      cases hpi 1 u2 (.str y) rfl rfl
      rfl
    obtain rfl : u3 = .int n := by
      cases hpi 2 u3 (.int n) rfl rfl
      rfl
    have ew : placeOf d = (x, y, n) := by
      unfold placeOf wayOf
      rw [ie]
      rfl
    rw [ew] at q
    refine ⟨_, rfl, p, [.str x, .str y, .int n], rfl, ?_⟩
    rcases hp with hp | hp
    · exact .inl ⟨SqL.of hp, fun l nl => q _ _ (s1.trans (same_new nl)) (way_im upd_same)⟩
    · exact .inr ⟨SqT.of hp, q _ _ s1 (way_im hp)⟩
end
end Cry
/-! is_place, own_place, places_beside, neighbours. -/
namespace Cry
open PySem PySem.Spec PyProof.Rows L2
section
variable {P : Program} {w : World} {K : PySem.W.Frag} {mg : Str → Option Value} {base : Heap}
/-! ### places_beside -/
/-- the neighbours of a place, way by way -/
def besideL (ways : List Way) (p : Way) : List Way := ways.flatMap fun y => (numbersBeside y p).map (placeOn y)
theorem numbers_len (y p : Way) : (numbersBeside y p).length ≤ 2 := by
  unfold numbersBeside
  split
  · decide
  · split
    · exact Nat.le_succ 1
    · split
      · exact Nat.le_refl 2
      · decide
theorem besideL_len (p : Way) : ∀ ways : List Way, (besideL ways p).length ≤ 2 * ways.length
  | [] => Nat.le_refl 0
  | y :: ways => by
    have ih := besideL_len p ways
    have h := numbers_len y p
    unfold besideL at ih ⊢
    rw [List.flatMap_cons, List.length_append, List.length_map, List.length_cons]
    omega
theorem besideL_take {ways : List Way} {i : Nat} {y : Way} (p : Way) (h : ways[i]? = some y) : besideL (ways.take (i + 1)) p = besideL (ways.take i) p ++ (numbersBeside y p).map (placeOn y) := by
  unfold besideL
  rw [List.take_add_one, h, List.flatMap_append]
  simp
theorem scBeside : FnScope ["web", "place", "way", "number"] ["web", "place"] (defScope sBeside) := ⟨rfl, rfl, rfl, by decide +kernel, rfl, by decide +kernel, by decide +kernel⟩
/-- hands back a new list of data that never changes -/
def givesL (H : Hp) (Q : VK) (ds : List PyData) : Prop := ∀ l vs H', Same H H' → H l = none → H' l = some (.lst vs) → Ims H' vs ds → Q (.ref l) H'
def spBeside : Sp := fun vs H Q _ => ∃ (T : Addr) (v : V) (names : List Str) (ways : List Way) (p : Way), vs = [.ref T, v] ∧ WebAt H T names ways ∧ Im H v (wayD3 p) ∧ WebOk names ways ∧ nameOkS p.1 = true ∧ nameOkS p.2.1 = true ∧ givesL H Q (sortD ((besideL ways p).map wayD3))
theorem ok_beside {f f1 f2 : Addr} {fd fd1 fd2 : FuncData} (F : Fun K "places_beside" "places_beside" sBeside f fd) (mS : mg "sorted" = none) (D1 : Def K mg "place_on" f1 fd1 ["way", "number"]) (G1 : FnOk P w K mg base CX0 2 f1 fd1 ["way", "number"] spPlaceOn)
    (D2 : Def K mg "numbers_beside" f2 fd2 ["way", "place"]) (G2 : FnOk P w K mg base CX0 2 f2 fd2 ["way", "place"] spNumbers) : FnOk P w K mg base CX0 3 f fd ["web", "place"] spBeside := by
  refine F.ok scBeside (fun vs H Q E h => ?_) (fun cdv A outer s H vs Q E hr h => ?_)
  · obtain ⟨T, v, names, ways, p, rfl, _⟩ := h
    rfl
  · obtain ⟨T, v, names, ways, p, rfl, ⟨F', W, ws, hT, hF, hW, hI⟩, hv, wok, o3, o4, q⟩ := h
    refine ⟨_, pss_one (ps_ret (pe_callB (cr_sortedD hr.units) (by rfl) mS (by decide +kernel) (pa_cons (pe_lc2 (own := [("way", 2), ("number", 3)]) (vs1 := [3]) (g := gName 2) (g1 := gName 3) (tt := tYes) (tt1 := tYes)
      (wi1 := iList K (tCall spNumbers [] (fun _ _ _ => False) (tCons (tVar 2) (tCons (tVar 1) tNil)))) (te := tCall spPlaceOn [] (fun _ _ _ => False) (tCons (tVar 2) (tCons (tVar 3) tNil))) rfl scBeside.nd
      (pi_list (pe_ix ix_tup (pv 0) pe_int (fun _ _ => rfl))) (blkOk_by (N := ["web", "place", "way", "number"]) (sc := defScope sBeside) (by decide +kernel)) (by decide)
      (fun _ _ _ _ _ => pg_name (i := 2) scBeside.nd rfl (Or.inl rfl)) (fun _ _ _ _ _ => pts_nil)
      (fun _ _ _ _ _ => pi_list (pe_call G2 hr (by rfl) D2.at_ D2.kp D2.b .nil pass0 (pa_cons (pv 2) (pa_cons (pv 1) pa_nil))))
      (fun _ _ _ _ _ => pg_name (i := 3) scBeside.nd rfl (Or.inl rfl)) (fun _ _ _ _ _ => pts_nil)
      (fun _ _ _ _ _ => pe_call G1 hr (by rfl) D1.at_ D1.kp D1.b .nil pass0 (pa_cons (pv 2) (pa_cons (pv 3) pa_nil)))) pa_nil))), ?_⟩
    have lw := hI.length
    rw [List.length_map] at lw
    refine ⟨_, rfl, T, _, 1, _, rfl, rfl, SqT.of hT, atI_nat (j := 1) rfl, W, rfl, ⟨_, SqL.of hW⟩, fun D nD => ?_⟩
    have small : ∀ i, (besideL (ways.take i) p).length ≤ 300 := fun i => by
      have h1 := besideL_len p (ways.take i)
      have h2 := wok.few
      rw [List.length_take] at h1
      omega
    refine ⟨fun i m H2 => m = ws.length - i ∧ i ≤ ws.length ∧ Same H H2 ∧ ∃ acc, H2 D = some (.lst acc) ∧ Ims H2 acc ((besideL (ways.take i) p).map wayD3),
      ⟨ws.length, by simp, Nat.zero_le _, same_new nD, [], upd_same, .nil⟩, ?_⟩
    rintro i m H2 ⟨rfl, hi, s2, acc, hacc, im⟩
    have hW2 : SqL K H2 W ws := s2.seq (SqL.of hW)
    by_cases lt : i < ws.length
    · refine .inr ⟨⟨ws, ws[i], hW2, by simp [lt]⟩, fun H' => Same H H' ∧ ∃ acc, H' D = some (.lst acc) ∧ Ims H' acc ((besideL (ways.take (i + 1)) p).map wayD3), fun H' h => ⟨ws.length - (i + 1), by omega, rfl, lt, h⟩, ?_⟩
      rintro x H3 ⟨rfl, ex⟩
      obtain ⟨z, ez⟩ : ∃ z, ways[i]? = some z := ⟨_, List.getElem?_eq_getElem (show i < ways.length by omega)⟩
      have ex' := ex ws hW2
      have imz : Im H x (wayD3 z) := by
        obtain ⟨d, ed, im⟩ := Ims.at hI ex'
        rw [List.getElem?_map, ez] at ed
        cases ed
        exact im
      have zok := wok.way z (List.mem_of_getElem? ez)
      refine ⟨rfl, ?_⟩
      refine ⟨_, rfl, _, rfl, x, v, z, p, rfl, imz.on (TS.same s2), hv.on (TS.same s2), zok.1, zok.2.1, o3, o4, fun l H4 s4 nlH hl => ?_⟩
      have nl : l ≠ D := fun e => by
        rw [e, hacc] at nlH
        cases nlH
      refine ⟨l, rfl, ⟨_, SqL.of hl⟩, ?_⟩
      have ln := numbers_len z p
      refine ⟨fun j k H5 => k = (numbersBeside z p).length - j ∧ j ≤ (numbersBeside z p).length ∧ Same H H5 ∧ H5 l = some (.lst ((numbersBeside z p).map V.int)) ∧ ∃ acc, H5 D = some (.lst acc) ∧ Ims H5 acc ((besideL (ways.take i) p ++ ((numbersBeside z p).take j).map (placeOn z)).map wayD3),
        ⟨_, rfl, Nat.zero_le _, s2.trans s4, hl, acc, s4 _ _ hacc, by simpa using im.on (TS.same s4)⟩, ?_⟩
      rintro j k H5 ⟨rfl, hj, s5, hl5, acc5, hacc5, im5⟩
      have hl5' : SqL K H5 l ((numbersBeside z p).map V.int) := SqL.of hl5
      by_cases ltj : j < (numbersBeside z p).length
      · refine .inr ⟨⟨_, (V.int (numbersBeside z p)[j]), hl5', by simp [ltj]⟩, fun H' => Same H H' ∧ H' l = some (.lst ((numbersBeside z p).map V.int)) ∧ ∃ acc, H' D = some (.lst acc) ∧ Ims H' acc ((besideL (ways.take i) p ++ ((numbersBeside z p).take (j + 1)).map (placeOn z)).map wayD3),
          fun H' h => ⟨(numbersBeside z p).length - (j + 1), by omega, rfl, ltj, h⟩, ?_⟩
        rintro u H6 ⟨rfl, eu⟩
        have eu' := eu _ hl5'
        rw [List.getElem?_map, List.getElem?_eq_getElem ltj] at eu'
        cases eu'
        refine ⟨rfl, ?_⟩
        refine ⟨_, rfl, _, rfl, x, z, (numbersBeside z p)[j], rfl, imz.on (TS.same s5), fun y7 H7 s7 im7 => ?_⟩
        have la : acc5.length ≤ 302 := by
          have h1 := im5.length
          rw [List.length_map, List.length_append, List.length_map, List.length_take] at h1
          have := small i
          omega
        refine ⟨acc5, s7 _ _ hacc5, small1000 (by omega), same_at (s5.trans s7) nD, ?_, acc5 ++ [y7], upd_same, ?_⟩
        · rw [upd_ne nl]
          exact s7 _ _ hl5
        · have t7 : TS H7 (upd H7 D (.lst (acc5 ++ [y7]))) := TS.lst (s7 _ _ hacc5)
          have e7 : (besideL (ways.take i) p ++ ((numbersBeside z p).take (j + 1)).map (placeOn z)).map wayD3 = (besideL (ways.take i) p ++ ((numbersBeside z p).take j).map (placeOn z)).map wayD3 ++ [wayD3 (placeOn z (numbersBeside z p)[j])] := by
            have e8 : (numbersBeside z p).take (j + 1) = (numbersBeside z p).take j ++ [(numbersBeside z p)[j]] := by
              rw [List.take_add_one, List.getElem?_eq_getElem ltj]
              rfl
            rw [e8]
            simp only [List.map_append, List.map_cons, List.map_nil, List.append_assoc]
          rw [e7]
          exact ((im5.on (TS.same s7)).append (.cons im7 .nil)).on t7
      · have ej : j = (numbersBeside z p).length := by omega
        refine .inl ⟨⟨_, hl5', by simp; omega⟩, s5, acc5, hacc5, ?_⟩
        rw [besideL_take p ez]
        rw [ej, List.take_length] at im5
        exact im5
    · have ei : i = ws.length := by omega
      refine .inl ⟨⟨ws, hW2, by omega⟩, ?_⟩
      rw [ei, lw, List.take_length] at im
      have hl := im.length
      rw [List.length_map] at hl
      have hb : (besideL ways p).length ≤ 300 := by
        have := besideL_len p ways
        have := wok.few
        omega
      have ef : (acc.zip ((besideL ways p).map wayD3)).map Prod.fst = acc := List.map_fst_zip (by rw [List.length_map]; omega)
      have es : (acc.zip ((besideL ways p).map wayD3)).map Prod.snd = (besideL ways p).map wayD3 := List.map_snd_zip (by rw [List.length_map]; omega)
      refine ⟨D, acc.zip ((besideL ways p).map wayD3), rfl, by rw [ef]; exact SqL.of hacc, im.pairs, by rw [es]; exact places_alike _, by rw [es]; exact places_sortable _, fun b hb' => ?_, fun l nl => ?_⟩
      · have : b.2 ∈ (besideL ways p).map wayD3 := by
          rw [← es]
          exact List.mem_map.mpr ⟨b, hb', rfl⟩
        obtain ⟨y, _, e⟩ := List.mem_map.mp this
        rw [← e]
        exact place_depth y
      · exact q l _ _ (s2.trans (same_new nl)) (s2.free nl) upd_same ((sorted_ims im).on (TS.new nl))
/-! ### neighbours -/
theorem scNeighbours : FnScope ["web", "place", "own"] ["web", "place"] (defScope sNeighbours) := ⟨rfl, rfl, rfl, by decide +kernel, rfl, by decide +kernel, by decide +kernel⟩
/-- of a web and a place of it, by lists and tuples as they come -/
def spNeighbours : Sp := fun vs H Q _ => ∃ (v u : V) (d e : PyData), vs = [v, u] ∧ Da H v d ∧ Da H u e ∧ webD d = true ∧ placeOk (folkOf d) (waysOf d) e = true ∧ givesL H Q (sortD ((besideL (waysOf d) (placeOf e)).map wayD3))
theorem ok_neighbours {f f1 f2 f3 : Addr} {fd fd1 fd2 fd3 : FuncData} (F : Fun K "neighbours" "neighbours" sNeighbours f fd) (D1 : Def K mg "own_web" f1 fd1 ["web"]) (G1 : FnOk P w K mg base CX0 6 f1 fd1 ["web"] spOwnWeb)
    (D2 : Def K mg "own_place" f2 fd2 ["web", "place"]) (G2 : FnOk P w K mg base CX0 4 f2 fd2 ["web", "place"] spOwnPlace) (D3 : Def K mg "places_beside" f3 fd3 ["web", "place"]) (G3 : FnOk P w K mg base CX0 3 f3 fd3 ["web", "place"] spBeside) :
    FnOk P w K mg base CX0 7 f fd ["web", "place"] spNeighbours := by
  refine F.ok scNeighbours (fun vs H Q E h => ?_) (fun cdv A outer s H vs Q E hr h => ?_)
  · obtain ⟨v, u, d, e, rfl, _⟩ := h
    rfl
  · obtain ⟨v, u, d, e, rfl, hd, he, wd, pk, q⟩ := h
    refine ⟨_, pss_cons (ps_set (i := 2) scNeighbours.nd rfl (Or.inl rfl) (pe_call G1 hr (by rfl) D1.at_ D1.kp D1.b .nil pass0 (pa_cons (pv 0) pa_nil)))
      (pss_one (ps_ret (pe_call G3 (hr.mono (by decide)) (by rfl) D3.at_ D3.kp D3.b .nil pass0 (pa_cons (pv 2) (pa_cons (pe_call G2 (hr.mono (by decide)) (by rfl) D2.at_ D2.kp D2.b .nil pass0 (pa_cons (pv 2) (pa_cons (pv 1) pa_nil))) pa_nil))))), ?_⟩
    refine ⟨_, rfl, v, d, rfl, hd, wd, fun T H1 o => ?_⟩
    have wok := (webOk_of hd wd).1
    refine ⟨_, rfl, _, rfl, _, rfl, T, _, _, u, e, rfl, o.web, he.on o.same, pk, fun p H2 s2 im => ?_⟩
    obtain ⟨_, x, y, n, ie, o1, o2, _⟩ := placeOk_true pk
    have ep : placeOf e = (x, y, n) := by
      unfold placeOf wayOf
      rw [ie]
      rfl
    refine ⟨T, p, _, _, placeOf e, rfl, o.web.on s2, im, wok, by rw [ep]; exact o1, by rw [ep]; exact o2, fun l vs' H3 s3 nl hl ims => ?_⟩
    exact q l vs' H3 ((o.same.trans s2).trans s3) ((o.same.trans s2).free nl) hl ims
end
end Cry
/-! Small rules that the draws of all laws share; sorted() of a list of texts. -/
namespace Cry
open PySem PySem.Spec PyProof.Rows L2
theorem sameO_at {H : Hp} {a : Addr} {o : HO} : SameO a H (upd H a o) := fun b u n e => by
  rw [upd_ne n]
  exact e
theorem seqIx_nat {r : Int} {n : Nat} (h0 : 0 ≤ r) (h1 : r < n) : seqIndex? r n = some r.toNat := by
  unfold seqIndex?
  simp only [show ¬ r < 0 from by omega, if_false, decide_eq_true h0, decide_eq_true h1, Bool.and_self, if_true]
theorem sameO_new {H H1 : Hp} {a p : Addr} {o : HO} (s : SameO a H H1) (np : H p = none) : SameO a H (upd H1 p o) := fun b u n e => by
  rw [upd_ne (ne_of_none e np)]
  exact s b u n e
theorem eraseIdx_perm {α : Type} : ∀ {L : List α} {k : Nat} {y : α}, L[k]? = some y → (y :: L.eraseIdx k).Perm L
  | [], _, _, h => by simp at h
  | x :: L, 0, y, h => by
    simp at h
    subst h
    exact .refl _
  | x :: L, k + 1, y, h => by
    simp at h
    have := eraseIdx_perm h
    exact (List.Perm.swap x y _).trans (this.cons x)
abbrev rLenS (K : PySem.W.Frag) : List V → Hp → VK → Prop := fun xs H Q => ∃ p ys, xs = [.ref p] ∧ (SqL K H p ys ∨ SqT K H p ys) ∧ Q (.int ys.length) H
theorem cr_lenS {X : Cx} : CallR X (.builtin "len") (rLenS X.K) := call_len_seq
theorem perm_map_inv {α β : Type} {f : α → β} {l1 l2 : List β} (p : l1.Perm l2) : ∀ ts : List α, l2 = ts.map f → ∃ us : List α, l1 = us.map f ∧ us.Perm ts := by
  induction p with
  | nil => exact fun ts e => ⟨ts, e, .refl _⟩
  | cons x _ ih =>
    intro ts e
    match ts, e with
    | t :: ts, e =>
      rw [List.map_cons, List.cons.injEq] at e
      obtain ⟨us, e1, e2⟩ := ih ts e.2
      exact ⟨t :: us, by rw [List.map_cons, e1, e.1], e2.cons t⟩
  | swap x y l =>
    intro ts e
    match ts, e with
    | t :: u :: ts, e =>
      rw [List.map_cons, List.map_cons, List.cons.injEq, List.cons.injEq] at e
      exact ⟨u :: t :: ts, by rw [List.map_cons, List.map_cons, e.1, e.2.1, e.2.2], List.Perm.swap t u ts⟩
  | trans _ _ ih1 ih2 =>
    intro ts e
    obtain ⟨us, e1, e2⟩ := ih2 ts e
    obtain ⟨ws, e3, e4⟩ := ih1 us e1
    exact ⟨ws, e3, e4.trans e2⟩
theorem cut_take (us : List Str) (m : Nat) : cutV (us.map V.str) none (some (m : Int)) = (us.take m).map V.str := by
  unfold cutV
  have h1 : HT.sIx (us.map V.str).length (us.map V.str).length (some (m : Int)) = min m us.length := by
    unfold HT.sIx
    rw [List.length_map]
    simp only [Int.toNat_natCast]
    rw [if_neg (by omega)]
  have h0 : HT.sIx (us.map V.str).length 0 none = 0 := rfl
  rw [h1, h0, List.drop_zero, Nat.sub_zero, ← List.map_take]
  congr 1
  by_cases h : m ≤ us.length
  · rw [Nat.min_eq_left h]
  · rw [Nat.min_eq_right (by omega), List.take_of_length_le (Nat.le_refl _), List.take_of_length_le (by omega)]
theorem keys_str {ks : List Key} (h : ∀ k ∈ ks, ∃ x, k = Sum.inr x) : ∃ ts : List Str, ks = ts.map Sum.inr := by
  induction ks with
  | nil => exact ⟨[], rfl⟩
  | cons k ks ih =>
    obtain ⟨x, rfl⟩ := h k (List.mem_cons_self ..)
    obtain ⟨ts, rfl⟩ := ih fun k hk => h k (List.mem_cons_of_mem _ hk)
    exact ⟨x :: ts, rfl⟩
/-! Texts and pairs of texts in their order. -/
theorem rising_of : ∀ {ds : List PyData}, ds.Pairwise (fun x y => PySem.W.dataLt x y = true) → risingD ds = true
  | [], _ => rfl
  | [_], _ => rfl
  | d :: e :: r, h => by
    obtain ⟨h1, h2⟩ := List.pairwise_cons.mp h
    show (PySem.W.dataLt d e && risingD (e :: r)) = true
    rw [h1 e (List.mem_cons_self ..), rising_of h2]
    rfl
theorem nat_lt_of {a b : List Nat} (h : ¬ b < a) (n : a ≠ b) : a < b := by
  by_cases h1 : a < b
  · exact h1
  · exact absurd (List.le_antisymm (List.not_lt.mp h) (List.not_lt.mp h1)) n
theorem str_ext {x y : Str} (h : x.cps.toList = y.cps.toList) : x = y := by
  cases x with | mk a =>
  cases y with | mk b =>
  congr
  exact Array.toList_inj.mp h
theorem eqv_str (x y : Str) : (PyData.str x).eqv (.str y) = decide (x = y) := by
  rw [← beq_str]
  rfl
/-- a kind of data whose order is strict -/
structure OrdBy (β : Type) (f : β → PyData) : Prop where
  alike : ∀ a b, PySem.W.alike (f a) (f b) = true
  tri : ∀ a b, a ≠ b → PySem.W.dataLt (f b) (f a) = false → PySem.W.dataLt (f a) (f b) = true
theorem ord_str : OrdBy Str PyData.str := ⟨fun _ _ => rfl, fun a b n h => by
  rw [PySem.W.dataLt_str, decide_eq_false_iff_not] at h
  rw [PySem.W.dataLt_str, decide_eq_true_eq]
  exact nat_lt_of h fun e => n (str_ext e)⟩
def pD (y : Str × Str) : PyData := .tuple [.str y.1, .str y.2]
theorem pLt (a b : Str × Str) : PySem.W.dataLt (pD a) (pD b) = if a.1 = b.1 then PySem.W.dataLt (.str a.2) (.str b.2) else PySem.W.dataLt (.str a.1) (.str b.1) := by
  unfold pD
  rw [PySem.W.dataLt_pair rfl rfl, eqv_str, eqv_str]
  by_cases h : a.1 = b.1
  · rw [if_pos (by simp [h]), if_pos h]
    by_cases h2 : a.2 = b.2
    · rw [if_pos (by simp [h2]), h2, PySem.W.dataLt_str]
      exact (decide_eq_false (List.lt_irrefl _)).symm
    · rw [if_neg (by simp [h2])]
  · rw [if_neg (by simp [h]), if_neg h]
theorem ord_pair : OrdBy (Str × Str) pD := ⟨fun _ _ => rfl, fun a b n h => by
  rw [pLt] at h ⊢
  by_cases e : a.1 = b.1
  · rw [if_pos e.symm] at h
    rw [if_pos e]
    exact ord_str.tri _ _ (fun e2 => n (Prod.ext e e2)) h
  · rw [if_neg (Ne.symm e)] at h
    rw [if_neg e]
    exact ord_str.tri _ _ e h⟩
theorem OrdBy.pw {β : Type} {f : β → PyData} (O : OrdBy β f) {ls : List β} (nd : ls.Nodup) (h : ls.Pairwise fun x y => PySem.W.dataLe false f x y = true) : ls.Pairwise fun x y => PySem.W.dataLt (f x) (f y) = true := by
  rw [PySem.W.dataLe_eq] at h
  have nd' : ls.Pairwise fun a b => a ≠ b := nd
  refine (h.and nd').imp fun {a b} hh => ?_
  refine O.tri _ _ hh.2 ?_
  have := hh.1
  simpa using this
theorem OrdBy.rise {β : Type} {f : β → PyData} (O : OrdBy β f) {ls : List β} (nd : ls.Nodup) (h : ls.Pairwise fun x y => PySem.W.dataLe false f x y = true) : risingD (ls.map f) = true :=
  rising_of (List.pairwise_map.mpr (O.pw nd h))
def sortB {β : Type} (f : β → PyData) (ls : List β) : List β := ls.mergeSort (PySem.W.dataLe false f)
theorem sortB_perm {β : Type} (f : β → PyData) (ls : List β) : (sortB f ls).Perm ls := List.mergeSort_perm _ _
theorem str_trans (a b c : Str) (h1 : PySem.W.dataLe false PyData.str a b = true) (h2 : PySem.W.dataLe false PyData.str b c = true) : PySem.W.dataLe false PyData.str a c = true := by
  have e := PySem.W.dataLe_str (fun x : Str => x)
  rw [show PySem.W.dataLe false PyData.str = PySem.W.dataLe false (fun b : Str => PyData.str b) from rfl, e] at h1 h2 ⊢
  simp only [decide_eq_true_eq] at h1 h2 ⊢
  exact List.le_trans h1 h2
theorem str_total (a b : Str) : (PySem.W.dataLe false PyData.str a b || PySem.W.dataLe false PyData.str b a) = true := by
  have e := PySem.W.dataLe_str (fun x : Str => x)
  rw [show PySem.W.dataLe false PyData.str = PySem.W.dataLe false (fun b : Str => PyData.str b) from rfl, e]
  simp only [Bool.or_eq_true, decide_eq_true_eq]
  exact List.le_total _ _
theorem sortS_rise {ls : List Str} (nd : ls.Nodup) : risingD ((sortB PyData.str ls).map PyData.str) = true :=
  ord_str.rise ((sortB_perm _ ls).nodup_iff.mpr nd) (List.pairwise_mergeSort str_trans str_total ls)
theorem sortS_pw {ls : List Str} (nd : ls.Nodup) : (sortB PyData.str ls).Pairwise fun x y => ltS x y = true := by
  refine (ord_str.pw ((sortB_perm _ ls).nodup_iff.mpr nd) (List.pairwise_mergeSort str_trans str_total ls)).imp fun {a b} h => ?_
  rw [PySem.W.dataLt_str] at h
  exact h
theorem sortS_vals (ls : List Str) : ((ls.map fun x => (V.str x, PyData.str x)).mergeSort (PySem.W.dataLe false Prod.snd)).map Prod.fst = (sortB PyData.str ls).map V.str := by
  have t := PySem.W.sort_maps (r := PySem.W.dataLe false PyData.str) (s := PySem.W.dataLe false (Prod.snd : V × PyData → PyData)) (fun x : Str => (V.str x, PyData.str x)) (l := ls) (fun _ _ _ _ => rfl)
  rw [← t, List.map_map]
  rfl
/-- sorted() of a list of texts -/
def rSortedT (K : PySem.W.Frag) : List V → Hp → VK → Prop := fun vs H Q => ∃ (a : Addr) (xs : List Str), vs = [V.ref a] ∧ SqL K H a (xs.map V.str) ∧ ∀ p, H p = none → Q (.ref p) (upd H p (.lst ((sortB PyData.str xs).map V.str)))
theorem cr_sortedT {X : Cx} (hu : X.A.units + 64 < cLine) : CallR X (.builtin "sorted") (rSortedT X.K) := by
  intro pins s σ H vs us Q I r h
  obtain ⟨a, xs, rfl, hs, q⟩ := h
  refine cr_sortedD hu pins s σ H _ us Q I r ⟨a, xs.map fun x => (V.str x, PyData.str x), rfl, ?_, ?_, ?_, ?_, ?_, fun p np => ?_⟩
  · rw [List.map_map]
    exact hs
  · intro b hb
    obtain ⟨x, _, rfl⟩ := List.mem_map.mp hb
    exact .str _
  · rw [List.map_map]
    intro d hd e he
    obtain ⟨x, _, rfl⟩ := List.mem_map.mp hd
    obtain ⟨y, _, rfl⟩ := List.mem_map.mp he
    rfl
  · rw [List.map_map]
    exact .inr fun d hd => by
      obtain ⟨x, _, rfl⟩ := List.mem_map.mp hd
      exact ⟨(fun e => by cases e), (fun _ e => by cases e)⟩
  · intro b hb
    obtain ⟨x, _, rfl⟩ := List.mem_map.mp hb
    simp [PyData.depth]
  · rw [sortS_vals]
    exact q p np
end Cry
namespace Cry
open PySem PySem.Spec PyProof.Rows L2
/-! sorted() of a dict whose keys are pairs of texts. -/
section
open PySem.W
variable {prog : Program} {w : World} {A : Around} {E : Value → Shared → Prop} {s : Shared} {T : String} {r d : Addr} {n : Nat} {IP : Nat → Value → Prop} {OK : Heap → Prop}
/-- what a dict's walk collects, with the heap's growth -/
theorem collect_more {R : List Value → Shared → Prop} (K : KdlSrc prog w T r d n IP OK) (hh : A.handled = none) (ok : OK s.heap) (hn : n ≤ sizeLine)
    (h : ∀ (h' : Heap) (tk : Nat) (acc : Array Value), (∀ b o, s.heap.get? b = some o → h'.get? b = some o) → s.heap.objs.size ≤ h'.objs.size → ItemsOf IP acc n → R acc.toList { s with heap := h', toks := tk }) :
    wpAny (model prog w) A (collect (.ref r)) R E s := by
  obtain ⟨lr, ld⟩ := K.there _ ok
  unfold collect
  refine wpAny_bind (wpAny_runValue (codeAny_builtin entry_proto_collect' ?_))
  rw [Around.under_plainId PySem.F.plain_proto_collect _]
  refine wpAny_bind (m := newList []) (wpAny_newObj_type (wpAny_pure ⟨plainId_quiet PySem.F.plain_list_iadd _, codeAny_builtin entry_list_iadd' ?_⟩))
  rw [Around.under_plainId PySem.F.plain_list_iadd _]
  have at0 : (s.heap.push { cls := .type "list", data := .seq ([] : List Value).toArray }).get? s.heap.objs.size = some { cls := .type "list", data := .seq #[] } := Heap.get?_push_size _ rfl
  have key := kdl_extend (A := A) (s := { s with heap := s.heap.push { cls := .type "list", data := .seq ([] : List Value).toArray } })
    (R := fun (q : Result) (s' : Shared) => ∃ (h' : Heap) (tk : Nat) (acc' : Array Value) (c' : Nat), q = .ok (.ret (.ref s.heap.objs.size)) ∧ s' = { s with heap := h', toks := tk } ∧
      (∀ b o, s.heap.get? b = some o → h'.get? b = some o) ∧ h'.get? s.heap.objs.size = some { cls := .type "list", dict := none, data := .seq acc' c', slots := #[] } ∧ ItemsOf IP acc' n)
    K hh (K.keep _ _ ok fun b _ o e => Heap.get?_push_of_some _ e) s.heap.objs.size (Nat.ne_of_gt lr) (Nat.ne_of_gt ld) (.ref s.heap.objs.size) 0 at0
    (fun h' tk acc' c' hk hS' hacc => ⟨h', tk, acc', c', rfl, rfl, fun b o e => hk b o (Nat.ne_of_lt (Heap.lt_size e)) (Heap.get?_push_of_some _ e), hS', hacc⟩) hn
  have fin : ∀ (h' : Heap) (tk : Nat) (acc' : Array Value) (c' : Nat), (∀ b o, s.heap.get? b = some o → h'.get? b = some o) → h'.get? s.heap.objs.size = some { cls := .type "list", dict := none, data := .seq acc' c', slots := #[] } →
      ItemsOf IP acc' n → R acc'.toList { s with heap := h', toks := tk } := fun h' tk acc' c' hk at1 it => h h' tk acc' hk (Nat.le_of_lt (Heap.lt_size at1)) it
  refine wpAny_mono key (fun z s' x => ?_) fun e s' x => by
    obtain ⟨_, _, _, _, e', _⟩ := x
    cases e'
  cases z with
  | done f =>
    obtain ⟨h', tk, acc', c', e, rfl, hk, at1, it⟩ := x
    cases e
    exact wpAny_bind (m := load s.heap.objs.size) (wpAny_load at1 (wpAny_pure (fin h' tk acc' c' hk at1 it)))
  | again c =>
    exact ⟨x.1, codeAny_mono x.2 fun q s2 y => by
      obtain ⟨h', tk, acc', c', rfl, rfl, hk, at1, it⟩ := y
      exact wpAny_bind (m := load s.heap.objs.size) (wpAny_load at1 (wpAny_pure (fin h' tk acc' c' hk at1 it)))⟩
end
def pK (y : Str × Str) : List Key := [Sum.inr y.1, Sum.inr y.2]
theorem pK_inj {a b : Str × Str} (h : pK a = pK b) : a = b := by
  unfold pK at h
  injection h with h1 h2
  injection h2 with h2 _
  exact Prod.ext (Sum.inr.inj h1) (Sum.inr.inj h2)
abbrev PB := Addr × (Str × Str)
def rSortedDT : List V → Hp → VK → Prop := fun vs H Q => ∃ (a : Addr) (kvs : List (List Key × V)) (ks : List (Str × Str)), vs = [V.ref a] ∧ H a = some (.dT kvs) ∧ kvs.map (·.1) = ks.map pK ∧
  ∀ p us, H p = none → Ims H us ((sortB pD ks).map pD) → Q (.ref p) (upd H p (.lst us))
theorem kt_pairs {H : Hp} : ∀ {kvs : List (List Key × V)} {xs : List (List Key × Addr × Value)}, Paired (fun (p : List Key × V) (q : List Key × Addr × Value) => p.1 = q.1 ∧ H q.2.1 = some (.tup (p.1.map kV)) ∧ RelV p.2 q.2.2) kvs xs →
    ∀ {ks : List (Str × Str)}, kvs.map (·.1) = ks.map pK → ∃ bs : List PB, xs.map (fun x => x.2.1) = bs.map (·.1) ∧ bs.map (·.2) = ks ∧ ∀ b ∈ bs, H b.1 = some (.tup [.str b.2.1, .str b.2.2])
  | _, _, .nil, ks, e => by
    cases ks with
    | nil => exact ⟨[], rfl, rfl, fun b hb => nomatch hb⟩
    | cons k ks => cases e
  | _, _, .cons (a := p) (b := x) h t, ks, e => by
    cases ks with
    | nil => cases e
    | cons k ks =>
      rw [List.map_cons, List.map_cons, List.cons.injEq] at e
      obtain ⟨bs, e1, e2, e3⟩ := kt_pairs t e.2
      refine ⟨(x.2.1, k) :: bs, by rw [List.map_cons, List.map_cons, e1], by rw [List.map_cons, e2], fun b hb => ?_⟩
      rcases List.mem_cons.mp hb with rfl | hb
      · have := h.2.1
        rw [e.1] at this
        exact this
      · exact e3 b hb
theorem refs_back : ∀ {bs : List PB} {out : List Value}, PySem.W.EachIs (fun (v : Value) (b : PB) => v = .ref b.1) out bs → Vals (bs.map fun b => V.ref b.1) out
  | _, _, .nil => .nil
  | _, _, .cons h t => .cons h (refs_back t)
theorem cr_sortedDT {X : Cx} (hc : X.calm = true) (hu : X.A.units + 64 < cLine) : CallR X (.builtin "sorted") rSortedDT := by
  intro pins s σ H vs us Q I r h
  obtain ⟨d, kvs, ks, rfl, hd, ek, q⟩ := h
  obtain ⟨u, rfl, rx⟩ := r.one
  cases rx
  obtain ⟨z, hs, xs, pr, o, es, ep, ho, hx, hdt, he, hn⟩ := (show ObjOk X.prog X.w H s.heap d (.dT kvs) from I.hok d _ hd)
  have l1 : es.size = xs.length := size_of_entries he
  have l2 : kvs.length = xs.length := Paired.length pr
  obtain ⟨bs, e1, e2, e3⟩ := kt_pairs pr ek
  have lb : bs.length = xs.length := by
    have := congrArg List.length e1
    rw [List.length_map, List.length_map] at this
    exact this.symm
  refine Calls.call_function_entry kind_sorted plain_sorted entry_sorted (args_sorted1 _) ?_
  unfold Builtin.«sorted»
  refine wpAny_bind (m := checkCount "sorted" 1 1 _) (wpAny_pure ?_)
  refine wpAny_bind (collect_more (A := X.A.in1) (kdl_raw hs hx hdt) (I.ok.hd hc) ho (by omega) fun h' tk acc kp hp it => ?_)
  have ea : acc.toList = xs.map fun x => Value.ref x.2.1 := by
    have hl : acc.toList.length = xs.length := by rw [Array.length_toList, it.1]; exact l1
    apply List.ext_getElem?
    intro j
    rw [List.getElem?_map]
    cases hj : acc.toList[j]? with
    | none =>
      have h1 := List.getElem?_eq_none_iff.mp hj
      rw [List.getElem?_eq_none (by omega)]
      all_goals rfl
    | some v =>
      obtain ⟨en, hen, hv⟩ := it.2 j v (by rw [← Array.getElem?_toList]; exact hj)
      have qe := entry_at he j
      rw [hen] at qe
      cases hb : xs[j]? with
      | none =>
        rw [hb] at qe
        exact nomatch (show some en = none from qe)
      | some b =>
        rw [hb] at qe
        have e2 : en = entryOfKey (tupleKind (mixKind X.prog X.w)) b := Option.some.inj qe
        rw [hv, e2]
        all_goals rfl
  have eb : acc.toList = bs.map fun b => Value.ref b.1 := by
    have : acc.toList = (xs.map fun x => x.2.1).map Value.ref := by
      rw [ea, List.map_map]
      rfl
    rw [this, e1, List.map_map]
    rfl
  have each : PySem.W.EachIs (fun (v : Value) (b : PB) => v = .ref b.1) acc.toList bs := by
    have q := PySem.W.EachIs.of (R := fun (v : Value) (b : PB) => v = .ref b.1) (zs := bs.map fun b => (Value.ref b.1, b)) fun p hp => by
      obtain ⟨b, hb, rfl⟩ := List.mem_map.mp hp
      rfl
    rw [List.map_map, List.map_map] at q
    rw [eb]
    simpa [Function.comp_def] using q
  have lz : acc.toList.length ≤ sizeLine := by
    rw [eb, List.length_map]
    omega
  refine wpAny_bind (wpAny_newList ?_ lz)
  have hoL : (h'.push (seqObj "list" acc.toList.toArray 0)).get? h'.objs.size = some (seqObj "list" acc.toList.toArray 0) := Heap.get?_push_size _ rfl
  have rd : ∀ b ∈ bs, Reads (h'.push (seqObj "list" acc.toList.toArray 0)) (.ref b.1) (pD b.2) [] := fun b hb => by
    obtain ⟨_, its, rv, o2, g2, c2, n2, d2⟩ := (show ObjOk X.prog X.w H s.heap b.1 (.tup [.str b.2.1, .str b.2.2]) from I.hok _ _ (e3 b hb))
    obtain ⟨t1, t2, rfl⟩ : ∃ t1 t2, its = [.str b.2.1 t1, .str b.2.2 t2] := by
      match its, rv with
      | _, .cons h1 (.cons h2 .nil) =>
        obtain ⟨t1, rfl⟩ := h1
        obtain ⟨t2, rfl⟩ := h2
        exact ⟨t1, t2, rfl⟩
    exact Reads.tuple (as := [] ++ ([] ++ [])) (Heap.get?_push_of_some _ (kp _ _ g2)) c2 d2 (.cons (.str _ _) (.cons (.str _ _) .nil))
  refine wpAny_bind (wpAny_holding ?_)
  refine PySem.W.list_sort_data (s := { s with heap := h'.push (seqObj "list" acc.toList.toArray 0), toks := tk }) (enc := fun b : PB => pD b.2) hoL each ?_ ?_ ?_ (by omega) (fun k _ => ?_) fun out hlen hout => ?_
  · have q := PySem.W.EachIs.of (R := fun (v : Value) (b : PB) => ∃ as, Reads (h'.push (seqObj "list" acc.toList.toArray 0)) v (pD b.2) as ∧ h'.objs.size ∉ as) (zs := bs.map fun b => (Value.ref b.1, b)) fun p hp => by
      obtain ⟨b, hb, rfl⟩ := List.mem_map.mp hp
      exact ⟨[], rd b hb, by simp⟩
    rw [List.map_map, List.map_map] at q
    rw [eb] at q ⊢
    simpa [Function.comp_def] using q
  · intro d hd e he
    obtain ⟨x, _, rfl⟩ := List.mem_map.mp hd
    obtain ⟨y, _, rfl⟩ := List.mem_map.mp he
    rfl
  · exact .inl fun d hd => by
      obtain ⟨x, _, rfl⟩ := List.mem_map.mp hd
      exact ⟨_, _, rfl⟩
  · have d0 : (pD k.2).depth ≤ 2 := by
      unfold pD
      simp [PyData.depth, PyData.depthAll]
    show X.A.units + 1 + 1 + _ < cLine
    omega
  · obtain ⟨c, hat⟩ := sortedHeap_at (vs := acc.toList) (out := out.toArray) hoL
    have rv := refs_back hout
    refine wpAny_pure ⟨_, rfl, ?_⟩
    have lb2 : ((bs.mergeSort (PySem.W.dataLe false fun b : PB => pD b.2)).map fun b => V.ref b.1).length ≤ sizeLine := by
      rw [List.length_map, List.length_mergeSort]
      omega
    refine ⟨.ref h'.objs.size, _, I.laid (t' := tk) (o := .lst ((bs.mergeSort (PySem.W.dataLe false fun b : PB => pD b.2)).map fun b => V.ref b.1)) (fun b u e => ?_) hp ⟨lb2, out, c, rv, hat⟩, rfl, q _ _ (I.hok.fresh hp) ?_⟩
    · have q := kp b u e
      have lt := Heap.lt_size q
      show (sortedHeap (h'.push (seqObj "list" acc.toList.toArray 0)) h'.objs.size acc.toList out.toArray).get? b = some u
      rw [sortedHeap_old (Nat.ne_of_lt lt) (by rw [size_push']; exact Nat.lt_succ_of_lt lt)]
      exact Heap.get?_push_of_some _ q
    · have em : (bs.mergeSort (PySem.W.dataLe false fun b : PB => pD b.2)).map Prod.snd = sortB pD ks := by
        unfold sortB
        rw [← e2]
        exact PySem.W.sort_maps (r := PySem.W.dataLe false fun b : PB => pD b.2) (s := PySem.W.dataLe false pD) Prod.snd (l := bs) (fun _ _ _ _ => rfl)
      rw [← em, List.map_map]
      refine Ims.of (by simp) fun i v d h1 h2 => ?_
      rw [List.getElem?_map] at h1 h2
      cases e : (bs.mergeSort (PySem.W.dataLe false fun b : PB => pD b.2))[i]? with
      | none =>
        rw [e] at h1
        cases h1
      | some b =>
        rw [e] at h1 h2
        cases h1
        cases h2
        have m : b ∈ bs := (List.mergeSort_perm _ _).mem_iff.mp (List.mem_of_getElem? e)
        exact .tup (e3 b m) (.cons (.str _) (.cons (.str _) .nil))
end Cry
/-! A web as its entries: pairs and beats. -/
namespace Cry
open PySem PySem.Spec PyProof.Rows L2
structure NamesOk (names : List Str) (m : Nat) : Prop where
  ok : ∀ x ∈ names, nameOkS x = true
  one : 1 ≤ names.length
  most : names.length ≤ m
  up : risingD (names.map PyData.str) = true
  nd : names.Nodup
  pw : names.Pairwise fun x y => ltS x y = true
abbrev Ents := List ((Str × Str) × Int)
def ents (es : Ents) : List (List Key × V) := es.map fun e => (pK e.1, V.int e.2)
def putE (es : Ents) (y : Str × Str) (n : Int) : Ents := if es.any (fun e => decide (e.1 = y)) = true then es.map (fun e => if e.1 = y then (e.1, n) else e) else es ++ [(y, n)]
theorem ents_any (es : Ents) (y : Str × Str) : ((ents es).any fun kv => decide (kv.1 = pK y)) = es.any fun e => decide (e.1 = y) := by
  unfold ents
  rw [List.any_map]
  congr 1
  funext e
  show decide (pK e.1 = pK y) = decide (e.1 = y)
  by_cases h : e.1 = y
  · rw [decide_eq_true h, decide_eq_true (congrArg pK h)]
  · rw [decide_eq_false h, decide_eq_false fun z => h (pK_inj z)]
theorem putE_ents (es : Ents) (y : Str × Str) (n : Int) : putK (ents es) (pK y) (.int n) = ents (putE es y n) := by
  unfold putK putE
  rw [ents_any]
  by_cases h : (es.any fun e => decide (e.1 = y)) = true
  · rw [if_pos h, if_pos h]
    unfold ents
    rw [List.map_map, List.map_map]
    refine List.map_congr_left fun e _ => ?_
    show (if pK e.1 = pK y then (pK e.1, V.int n) else (pK e.1, V.int e.2)) = _
    by_cases h2 : e.1 = y
    · rw [if_pos (congrArg pK h2)]
      show _ = ((fun e : (Str × Str) × Int => (pK e.1, V.int e.2)) (if e.1 = y then (e.1, n) else e))
      rw [if_pos h2]
    · rw [if_neg fun z => h2 (pK_inj z)]
      show _ = ((fun e : (Str × Str) × Int => (pK e.1, V.int e.2)) (if e.1 = y then (e.1, n) else e))
      rw [if_neg h2]
  · rw [if_neg h, if_neg h]
    unfold ents
    rw [List.map_append]
    rfl
theorem putE_len (es : Ents) (y : Str × Str) (n : Int) : (putE es y n).length ≤ es.length + 1 := by
  unfold putE
  split
  · rw [List.length_map]
    omega
  · rw [List.length_append]
    exact Nat.le_refl _
structure EntOk (names : List Str) (near : Bool) (es : Ents) : Prop where
  ok : ∀ e ∈ es, e.1.1 ∈ names ∧ e.1.2 ∈ names ∧ ltS e.1.1 e.1.2 = true ∧ 1 ≤ e.2 ∧ e.2 ≤ 1000000000000 ∧ (near = true → e.2 ≤ 9)
  nd : (es.map Prod.fst).Nodup
theorem EntOk.put {names : List Str} {near : Bool} {es : Ents} (h : EntOk names near es) {y : Str × Str} {n : Int} (h1 : y.1 ∈ names) (h2 : y.2 ∈ names) (h3 : ltS y.1 y.2 = true) (h4 : 1 ≤ n) (h5 : n ≤ 1000000000000) (h6 : near = true → n ≤ 9) : EntOk names near (putE es y n) := by
  unfold putE
  split
  · refine ⟨fun e he => ?_, ?_⟩
    · obtain ⟨e0, he0, rfl⟩ := List.mem_map.mp he
      have k := h.ok e0 he0
      split
      · exact ⟨k.1, k.2.1, k.2.2.1, h4, h5, h6⟩
      · exact k
    · have e : (es.map fun e => if e.1 = y then (e.1, n) else e).map Prod.fst = es.map Prod.fst := by
        rw [List.map_map]
        refine List.map_congr_left fun e _ => ?_
        show (if e.1 = y then (e.1, n) else e).1 = e.1
        split <;> rfl
      rw [e]
      exact h.nd
  · rename_i hn
    refine ⟨fun e he => ?_, ?_⟩
    · rcases List.mem_append.mp he with k | k
      · exact h.ok e k
      · rw [List.mem_singleton.mp k]
        exact ⟨h1, h2, h3, h4, h5, h6⟩
    · rw [List.map_append]
      refine List.nodup_append.mpr ⟨h.nd, by simp, fun a ha b hb => ?_⟩
      rintro rfl
      simp at hb
      obtain ⟨e, he, ee⟩ := List.mem_map.mp ha
      refine hn (List.any_eq_true.mpr ⟨e, he, decide_eq_true ?_⟩)
      rw [ee, hb]
def lookE (es : Ents) (y : Str × Str) : Int := ((es.find? fun e => decide (e.1 = y)).map Prod.snd).getD 0
theorem lookE_val {es : Ents} {y : Str × Str} (h : y ∈ es.map Prod.fst) : valV (ents es) (pK y) = some (.int (lookE es y)) ∧ (y, lookE es y) ∈ es := by
  induction es with
  | nil => cases h
  | cons e es ih =>
    unfold valV ents lookE at *
    rw [List.map_cons, List.find?_cons, List.find?_cons]
    by_cases h2 : e.1 = y
    · rw [show (decide (pK e.1 = pK y)) = true from decide_eq_true (congrArg pK h2), decide_eq_true h2]
      refine ⟨rfl, ?_⟩
      show (y, e.2) ∈ e :: es
      rw [← h2]
      exact List.mem_cons_self ..
    · rw [show (decide (pK e.1 = pK y)) = false from decide_eq_false fun z => h2 (pK_inj z), decide_eq_false h2]
      have hm : y ∈ es.map Prod.fst := by
        rcases List.mem_cons.mp h with k | k
        · exact absurd k.symm h2
        · exact k
      exact ⟨(ih hm).1, List.mem_cons_of_mem _ (ih hm).2⟩
/-- the ways of the pairs drawn, in their order -/
def waysE (es : Ents) : List Way := (sortB pD (es.map Prod.fst)).map fun p => (p.1, p.2, lookE es p)
/-- no two ways between the same two -/
def PairsNd (ways : List Way) : Prop := (ways.map fun y => (y.1, y.2.1)).Nodup
theorem waysE_nd {names : List Str} {near : Bool} {es : Ents} (h : EntOk names near es) : PairsNd (waysE es) := by
  unfold PairsNd waysE
  rw [List.map_map]
  have e : ((fun y : Way => (y.1, y.2.1)) ∘ fun p : Str × Str => ((p.1, p.2, lookE es p) : Way)) = id := rfl
  rw [e, List.map_id]
  exact (sortB_perm _ _).nodup_iff.mpr h.nd
theorem waysE_ok {names : List Str} {near : Bool} {es : Ents} {m : Nat} (N : NamesOk names m) (hm : m ≤ 60) (h : EntOk names near es) (hl : es.length ≤ 150) : WebOk names (waysE es) ∧ ∀ y ∈ waysE es, near = true → y.2.2 ≤ 9 := by
  have each : ∀ y ∈ waysE es, y.1 ∈ names ∧ y.2.1 ∈ names ∧ ltS y.1 y.2.1 = true ∧ 1 ≤ y.2.2 ∧ y.2.2 ≤ 1000000000000 ∧ (near = true → y.2.2 ≤ 9) := fun y hy => by
    obtain ⟨p, hp, rfl⟩ := List.mem_map.mp hy
    exact h.ok (p, lookE es p) (lookE_val ((sortB_perm _ _).mem_iff.mp hp)).2
  have inN : ∀ x ∈ names, inNames x names = true := fun x hx => by
    unfold inNames inV
    refine List.any_eq_true.mpr ⟨.str x, List.mem_map.mpr ⟨x, hx, rfl⟩, ?_⟩
    show decide (x = x) = true
    exact decide_eq_true rfl
  refine ⟨⟨N.ok, N.one, Nat.le_trans N.most hm, N.up, ?_, fun y hy => ?_, ?_⟩, fun y hy => (each y hy).2.2.2.2.2⟩
  · unfold waysE
    rw [List.length_map, (sortB_perm _ _).length_eq, List.length_map]
    exact hl
  · have k := each y hy
    exact ⟨N.ok _ k.1, N.ok _ k.2.1, k.2.2.2.1, k.2.2.2.2.1, inN _ k.1, inN _ k.2.1, k.2.2.1⟩
  · have e : (waysE es).map pairD = (sortB pD (es.map Prod.fst)).map pD := by
      unfold waysE
      rw [List.map_map]
      rfl
    rw [e]
    refine ord_pair.rise ((sortB_perm _ _).nodup_iff.mpr h.nd) ?_
    exact PySem.W.sort_pairwise (PySem.W.sortLe_total _ _ _) _
theorem u1 {n : Nat} (h : n + 64 < cLine) : n + 1 < cLine := by omega
end Cry
namespace Cry
open PySem PySem.Spec PyProof.Rows L2
/-! How long data's texts are; webs in every form. -/
structure Sm (B k : Nat) (d : PyData) : Prop where
  lay : d.canLay0 = true
  ish : d.intsShort 13 = true
  sh : d.showable = true
  wt : d.weight ≤ B
  dp : d.depth ≤ k
theorem Sm.shown {B k : Nat} {d : PyData} (h : Sm B k d) (hb : B ≤ 2 ^ 20) : d.shown.length ≤ sizeLine :=
  PyData.shown_fits (B := 13) (by decide) (by decide) (PyData.leavesShort_of_canLay0 13 d h.lay h.ish) (Nat.le_trans h.wt hb)
theorem Sm.mono {B C k : Nat} {d : PyData} (h : Sm B k d) (l : B ≤ C) : Sm C k d := ⟨h.lay, h.ish, h.sh, Nat.le_trans h.wt l, h.dp⟩
theorem Sm.deep {B j k : Nat} {d : PyData} (h : Sm B j d) (l : j ≤ k) : Sm B k d := ⟨h.lay, h.ish, h.sh, h.wt, Nat.le_trans h.dp l⟩
theorem Sm.str {x : Str} (h : nameOkS x = true) : Sm 8 0 (.str x) := by
  have h2 := h
  unfold nameOkS at h2
  rw [Bool.and_eq_true, Bool.and_eq_true, decide_eq_true_eq, decide_eq_true_eq] at h2
  exact ⟨name_strOk h, rfl, rfl, h2.1.2, Nat.le_refl _⟩
theorem Sm.int {n : Int} (h0 : 0 ≤ n) (h1 : n ≤ 1000000000000) : Sm 41 0 (.int n) := by
  have hl : n.natAbs.log2 < 40 := by
    by_cases z : n.natAbs = 0
    · rw [z]
      decide
    · exact (Nat.log2_lt z).mpr (by omega)
  refine ⟨rfl, ?_, ?_, ?_, Nat.le_refl _⟩
  · show decide ((PyData.shown (.int n)).length ≤ 13) = true
    by_cases e : n = 1000000000000
    · rw [e]
      decide +kernel
    · exact decide_eq_true (PyData.shown_int_le (by omega))
  · show decide (n.natAbs.log2 < 1920) = true
    exact decide_eq_true (by omega)
  · show (if n == 0 then 0 else n.natAbs.log2 + 1) ≤ 41
    split
    · exact Nat.zero_le _
    · omega
theorem Sm.all {B k : Nat} : ∀ {ds : List PyData}, (∀ e ∈ ds, Sm B k e) → PyData.canLayAll0 ds = true ∧ PyData.intsShortAll 13 ds = true ∧ PyData.showableAll ds = true ∧ PyData.weightAll ds ≤ ds.length * (B + 1) ∧ PyData.depthAll ds ≤ k
  | [], _ => ⟨rfl, rfl, rfl, Nat.zero_le _, Nat.zero_le _⟩
  | d :: ds, h => by
    have a := h d (List.mem_cons_self ..)
    obtain ⟨b1, b2, b3, b4, b5⟩ := Sm.all fun e he => h e (List.mem_cons_of_mem _ he)
    refine ⟨?_, ?_, ?_, ?_, ?_⟩
    · show (d.canLay0 && PyData.canLayAll0 ds) = true
      rw [a.lay, b1]
      rfl
    · show (d.intsShort 13 && PyData.intsShortAll 13 ds) = true
      rw [a.ish, b2]
      rfl
    · show (d.showable && PyData.showableAll ds) = true
      rw [a.sh, b3]
      rfl
    · show d.weight + 1 + PyData.weightAll ds ≤ (ds.length + 1) * (B + 1)
      have := a.wt
      rw [Nat.add_mul]
      omega
    · show max d.depth (PyData.depthAll ds) ≤ k
      exact Nat.max_le.mpr ⟨a.dp, b5⟩
theorem Sm.list {B C k : Nat} {ds : List PyData} (h : ∀ e ∈ ds, Sm B k e) (l : ds.length * (B + 1) ≤ C) : Sm C (k + 1) (.list ds) := by
  obtain ⟨b1, b2, b3, b4, b5⟩ := Sm.all h
  exact ⟨b1, b2, b3, Nat.le_trans b4 l, Nat.succ_le_succ b5⟩
theorem Sm.tuple {B C k : Nat} {ds : List PyData} (h : ∀ e ∈ ds, Sm B k e) (l : ds.length * (B + 1) ≤ C) : Sm C (k + 1) (.tuple ds) := by
  obtain ⟨b1, b2, b3, b4, b5⟩ := Sm.all h
  exact ⟨b1, b2, b3, Nat.le_trans b4 l, Nat.succ_le_succ b5⟩
mutual
theorem lay_nodict : ∀ d : PyData, d.canLay0 = true → d.hasDict = false
  | .none, _ => rfl
  | .bool _, _ => rfl
  | .int _, _ => rfl
  | .str _, _ => rfl
  | .list ds, h => lays_nodict ds h
  | .tuple ds, h => lays_nodict ds h
theorem lays_nodict : ∀ ds : List PyData, PyData.canLayAll0 ds = true → PyData.hasDictAll ds = false
  | [], _ => rfl
  | d :: ds, h => by
    have h2 : (d.canLay0 && PyData.canLayAll0 ds) = true := h
    rw [Bool.and_eq_true] at h2
    show (d.hasDict || PyData.hasDictAll ds) = false
    rw [lay_nodict d h2.1, lays_nodict ds h2.2]
    rfl
end
/-- a place or way of names, its number from 0 to 10 ** 12 -/
def TriOk (y : Way) : Prop := nameOkS y.1 = true ∧ nameOkS y.2.1 = true ∧ 0 ≤ y.2.2 ∧ y.2.2 ≤ 1000000000000
theorem Sm.tri {y : Way} (h : TriOk y) : ∀ e ∈ [PyData.str y.1, .str y.2.1, .int y.2.2], Sm 41 0 e := fun e he => by
  simp only [List.mem_cons, List.not_mem_nil, or_false] at he
  rcases he with rfl | rfl | rfl
  · exact (Sm.str h.1).mono (by decide)
  · exact (Sm.str h.2.1).mono (by decide)
  · exact Sm.int h.2.2.1 h.2.2.2
theorem Sm.way {y : Way} (h : TriOk y) : Sm 130 1 (wayD3 y) := Sm.tuple (Sm.tri h) (by show 3 * 42 ≤ 130; decide)
/-- a thing that stands for a web, by lists and tuples -/
structure WebForm (names : List Str) (ways : List Way) (d : PyData) : Prop where
  row : rowD d = true
  two : ∃ f ws, itemsD d = [f, ws] ∧ rowD f = true ∧ itemsD f = names.map PyData.str ∧ rowD ws = true ∧ (itemsD ws).length = ways.length ∧
    ∀ (i : Nat) (e : PyData) (y : Way), (itemsD ws)[i]? = some e → ways[i]? = some y → rowD e = true ∧ itemsD e = [.str y.1, .str y.2.1, .int y.2.2]
theorem wayOf_items {e : PyData} {y : Way} (h : itemsD e = [.str y.1, .str y.2.1, .int y.2.2]) : wayOf e = y := by
  unfold wayOf
  rw [h]
  rfl
theorem WebForm.web {names : List Str} {ways : List Way} {d : PyData} (h : WebForm names ways d) (wok : WebOk names ways) : webD d = true ∧ folkOf d = names ∧ waysOf d = ways := by
  obtain ⟨f, ws, e1, rf, ef, rw_, lw, each⟩ := h.two
  have en : namesD f = names := namesD_strs ef
  have eo : folkOf d = names := by
    unfold folkOf
    rw [e1]
    exact en
  have ew : waysOf d = ways := by
    unfold waysOf
    rw [e1]
    show (itemsD ws).map wayOf = ways
    apply List.ext_getElem?
    intro i
    rw [List.getElem?_map]
    cases e : (itemsD ws)[i]? with
    | none =>
      have := List.getElem?_eq_none_iff.mp e
      rw [List.getElem?_eq_none (by omega)]
      rfl
    | some x =>
      have lt : i < (itemsD ws).length := (List.getElem?_eq_some_iff.mp e).1
      obtain ⟨y, ey⟩ : ∃ y, ways[i]? = some y := ⟨_, List.getElem?_eq_getElem (by omega)⟩
      rw [ey]
      show some (wayOf x) = some y
      rw [wayOf_items (each i x y e ey).2]
  refine ⟨?_, eo, ew⟩
  have r2 : rowOfD 2 d = true := by
    unfold rowOfD
    rw [h.row, e1]
    rfl
  have hf : folkD f = true := by
    unfold folkD
    rw [rf, ef, List.length_map, decide_eq_true wok.one, decide_eq_true wok.most, wok.up, List.all_map]
    simp only [Bool.true_and, Bool.and_true]
    exact List.all_eq_true.mpr wok.ok
  have hw : waysD names ws = true := by
    unfold waysD
    rw [rw_, decide_eq_true (by rw [lw]; exact wok.few)]
    have a1 : (itemsD ws).all (wayD names) = true := by
      refine List.all_eq_true.mpr fun e he => ?_
      obtain ⟨i, hi⟩ := List.getElem?_of_mem he
      have lt : i < (itemsD ws).length := (List.getElem?_eq_some_iff.mp hi).1
      obtain ⟨y, ey⟩ : ∃ y, ways[i]? = some y := ⟨_, List.getElem?_eq_getElem (by omega)⟩
      obtain ⟨re, ie⟩ := each i e y hi ey
      obtain ⟨k1, k2, k3, k4, k5, k6, k7⟩ := wok.way y (List.mem_of_getElem? ey)
      unfold wayD rowOfD
      rw [re, ie]
      show (true && (nameOkS y.1 && nameOkS y.2.1 && (decide (1 ≤ y.2.2) && decide (y.2.2 ≤ 1000000000000)) && (inNames y.1 names && inNames y.2.1 names && ltS y.1 y.2.1))) = true
      rw [k1, k2, decide_eq_true k3, decide_eq_true k4, k5, k6, k7]
      rfl
    have a2 : (itemsD ws).map pairOf = ways.map pairD := by
      rw [← ew]
      unfold waysOf
      rw [e1]
      show _ = ((itemsD ws).map wayOf).map pairD
      rw [List.map_map]
      refine List.map_congr_left fun e he => ?_
      obtain ⟨i, hi⟩ := List.getElem?_of_mem he
      have lt : i < (itemsD ws).length := (List.getElem?_eq_some_iff.mp hi).1
      obtain ⟨y, ey⟩ : ∃ y, ways[i]? = some y := ⟨_, List.getElem?_eq_getElem (by omega)⟩
      obtain ⟨re, ie⟩ := each i e y hi ey
      show pairOf e = pairD (wayOf e)
      rw [wayOf_items ie]
      unfold pairOf
      rw [ie]
      rfl
    rw [a1, a2, wok.upw]
    rfl
  unfold webD
  rw [r2, e1]
  show (true && (folkD f && waysD (namesD f) ws)) = true
  rw [hf, en, hw]
  rfl
/-! ### a web that stands in the heap, in any form -/
def y3 (y : Way) : List V := [.str y.1, .str y.2.1, .int y.2.2]
def ItemAt (H : Hp) (v : V) (y : Way) : Prop := ∃ b, v = .ref b ∧ (H b = some (.lst (y3 y)) ∨ H b = some (.tup (y3 y)))
theorem name_short {x : Str} (h : nameOkS x = true) : x.length ≤ sizeLine := by
  unfold nameOkS at h
  rw [Bool.and_eq_true, Bool.and_eq_true, decide_eq_true_eq, decide_eq_true_eq] at h
  exact Nat.le_trans h.1.2 (by decide)
theorem y3_da {H : Hp} {y : Way} (t : TriOk y) : ∀ (i : Nat) (x : V) (e : PyData), (y3 y)[i]? = some x → [PyData.str y.1, .str y.2.1, .int y.2.2][i]? = some e → Da H x e
  | 0, _, _, h1, h2 => by
    cases h1
    cases h2
    exact .str _ (name_short t.1)
  | 1, _, _, h1, h2 => by
    cases h1
    cases h2
    exact .str _ (name_short t.2.1)
  | 2, _, _, h1, h2 => by
    cases h1
    cases h2
    exact .int _
  | _ + 3, _, _, h1, _ => by
    unfold y3 at h1
    simp at h1
theorem item_da {H : Hp} {v : V} {y : Way} (h : ItemAt H v y) (t : TriOk y) : ∃ e, Da H v e ∧ rowD e = true ∧ itemsD e = [.str y.1, .str y.2.1, .int y.2.2] ∧ Sm 130 1 e := by
  obtain ⟨b, rfl, h | h⟩ := h
  · exact ⟨.list [.str y.1, .str y.2.1, .int y.2.2], .lst h rfl (y3_da t), rfl, rfl, Sm.list (Sm.tri t) (by show 3 * 42 ≤ 130; decide)⟩
  · exact ⟨.tuple [.str y.1, .str y.2.1, .int y.2.2], .tup h rfl (y3_da t), rfl, rfl, Sm.tuple (Sm.tri t) (by show 3 * 42 ≤ 130; decide)⟩
def ItemsAt (H : Hp) (ws : List V) (ways : List Way) : Prop := ws.length = ways.length ∧ ∀ (i : Nat) (v : V) (y : Way), ws[i]? = some v → ways[i]? = some y → ItemAt H v y
theorem items_da {H : Hp} : ∀ {ws : List V} {ways : List Way}, ItemsAt H ws ways → (∀ y ∈ ways, TriOk y) → ∃ es : List PyData, es.length = ways.length ∧ (∀ (i : Nat) (v : V) (e : PyData), ws[i]? = some v → es[i]? = some e → Da H v e) ∧
    (∀ e ∈ es, Sm 130 1 e) ∧ ∀ (i : Nat) (e : PyData) (y : Way), es[i]? = some e → ways[i]? = some y → rowD e = true ∧ itemsD e = [.str y.1, .str y.2.1, .int y.2.2]
  | [], [], _, _ => ⟨[], rfl, fun i v e h => by simp at h, fun e h => by simp at h, fun i e y h => by simp at h⟩
  | v :: ws, y :: ways, h, t => by
    obtain ⟨es, l, h1, h2, h3⟩ := items_da (ws := ws) (ways := ways) ⟨Nat.succ.inj h.1, fun i v' y' e1 e2 => h.2 (i + 1) v' y' (by simpa using e1) (by simpa using e2)⟩ fun z hz => t z (List.mem_cons_of_mem _ hz)
    obtain ⟨e, d1, d2, d3, d4⟩ := item_da (h.2 0 v y rfl rfl) (t y (List.mem_cons_self ..))
    refine ⟨e :: es, congrArg (· + 1) l, fun i v' e' k1 k2 => ?_, fun e' he => ?_, fun i e' y' k1 k2 => ?_⟩
    · cases i with
      | zero =>
        cases k1
        cases k2
        exact d1
      | succ i => exact h1 i v' e' (by simpa using k1) (by simpa using k2)
    · rcases List.mem_cons.mp he with rfl | he
      · exact d4
      · exact h2 e' he
    · cases i with
      | zero =>
        cases k1
        cases k2
        exact ⟨d2, d3⟩
      | succ i => exact h3 i e' y' (by simpa using k1) (by simpa using k2)
  | [], _ :: _, h, _ => by cases h.1
  | _ :: _, [], h, _ => by cases h.1
def RowAt (H : Hp) (a : Addr) (xs : List V) : Prop := H a = some (.lst xs) ∨ H a = some (.tup xs)
theorem row_da {H : Hp} {a : Addr} {xs : List V} {ds : List PyData} {B k C : Nat} (h : RowAt H a xs) (l : xs.length = ds.length) (e : ∀ (i : Nat) (x : V) (e : PyData), xs[i]? = some x → ds[i]? = some e → Da H x e) (sm : ∀ e ∈ ds, Sm B k e) (c : ds.length * (B + 1) ≤ C) :
    ∃ d, Da H (.ref a) d ∧ rowD d = true ∧ itemsD d = ds ∧ Sm C (k + 1) d := by
  rcases h with h | h
  · exact ⟨.list ds, .lst h l e, rfl, rfl, Sm.list sm c⟩
  · exact ⟨.tuple ds, .tup h l e, rfl, rfl, Sm.tuple sm c⟩
theorem web_da {H : Hp} {p F W : Addr} {names : List Str} {ways : List Way} {ws : List V} (hp : RowAt H p [.ref F, .ref W]) (hF : RowAt H F (names.map V.str)) (hW : RowAt H W ws) (hi : ItemsAt H ws ways) (wok : WebOk names ways) :
    ∃ d, Da H (.ref p) d ∧ WebForm names ways d ∧ Sm 50000 3 d := by
  have tri : ∀ y ∈ ways, TriOk y := fun y hy => by
    obtain ⟨k1, k2, k3, k4, _⟩ := wok.way y hy
    exact ⟨k1, k2, by omega, k4⟩
  obtain ⟨es, l, h1, h2, h3⟩ := items_da hi tri
  have few := wok.few
  obtain ⟨dw, a1, a2, a3, a4⟩ := row_da (C := 20000) hW (by rw [hi.1, l]) h1 h2 (by rw [l]; omega)
  have nd : ∀ (i : Nat) (x : V) (e : PyData), (names.map V.str)[i]? = some x → (names.map PyData.str)[i]? = some e → Da H x e := fun i x e k1 k2 => by
    rw [List.getElem?_map] at k1 k2
    cases e0 : names[i]? with
    | none =>
      rw [e0] at k1
      cases k1
    | some z =>
      rw [e0] at k1 k2
      cases k1
      cases k2
      exact .str _ (name_short (wok.ok z (List.mem_of_getElem? e0)))
  have most := wok.most
  obtain ⟨df, b1, b2, b3, b4⟩ := row_da (C := 20000) (B := 8) (k := 0) hF (by rw [List.length_map, List.length_map]) nd (fun e he => by
    obtain ⟨z, hz, rfl⟩ := List.mem_map.mp he
    exact Sm.str (wok.ok z hz)) (by rw [List.length_map]; omega)
  obtain ⟨d, c1, c2, c3, c4⟩ := row_da (C := 50000) (ds := [df, dw]) (B := 20000) (k := 2) hp rfl (fun i x e k1 k2 => by
    match i, k1, k2 with
    | 0, k1, k2 =>
      cases k1
      cases k2
      exact b1
    | 1, k1, k2 =>
      cases k1
      cases k2
      exact a1
    | _ + 2, k1, _ => simp at k1) (fun e he => by
    simp only [List.mem_cons, List.not_mem_nil, or_false] at he
    rcases he with rfl | rfl
    · exact b4.deep (by decide)
    · exact a4) (by show 2 * 20001 ≤ 50000; decide)
  exact ⟨d, c1, ⟨c2, df, dw, c3, b2, b3, a2, by rw [a3]; exact l, fun i e y k1 k2 => h3 i e y (by rw [← a3]; exact k1) k2⟩, c4⟩
end Cry
namespace Cry
open PySem PySem.Spec PyProof.Rows L2
/-! min() and max() of two texts. -/
section
variable {prog : Program} {w : World} {A : Around} {E : Value → Shared → Prop} {s : Shared}
theorem strs_gt {IP : Nat → Value → Prop} (val : Nat → Str) (hval : ∀ i v, IP i v → ∃ t, v = .str (val i) t) : CmpOf prog w A .Gt IP fun i j => decide ((val j).cps.toList < (val i).cps.toList) := fun i j vi vj s Q E hi hj h => by
  obtain ⟨t, rfl⟩ := hval i vi hi
  obtain ⟨u, rfl⟩ := hval j vj hj
  exact richCompare_gives (op := .Gt) (typeIs_str s _ t) (typeIs_str s _ u) F.slot_str_gt F.entry_str_gt (F.args_str_gt_2 _ _) (gives_str_gt _ _ t u) (fun x => nomatch x) h
theorem strs_lt {IP : Nat → Value → Prop} (val : Nat → Str) (hval : ∀ i v, IP i v → ∃ t, v = .str (val i) t) : CmpOf prog w A .Lt IP fun i j => decide ((val i).cps.toList < (val j).cps.toList) := fun i j vi vj s Q E hi hj h => by
  obtain ⟨t, rfl⟩ := hval i vi hi
  obtain ⟨u, rfl⟩ := hval j vj hj
  exact richCompare_gives (op := .Lt) (typeIs_str s _ t) (typeIs_str s _ u) F.slot_str_lt F.entry_str_lt (F.args_str_lt_2 _ _) (gives_str_lt _ _ t u) (fun x => nomatch x) h
def twoS (x y : Str) (i : Nat) : Str := if i = 0 then x else y
theorem twoS_val {x y : Str} {t u : Tok} (i : Nat) (v : Value) (h : (#[Value.str x t, Value.str y u])[i]? = some v) : ∃ t, v = .str (twoS x y i) t := by
  match i, h with
  | 0, h =>
    cases h
    exact ⟨t, rfl⟩
  | 1, h =>
    cases h
    exact ⟨u, rfl⟩
  | _ + 2, h => simp at h
theorem max_two_str {x y : Str} {t u : Tok} {Q : Value → Shared → Prop} (hh : A.handled = none)
    (h : ∀ h' tk, (∀ c o, s.heap.get? c = some o → h'.get? c = some o) → Q (if x.cps.toList < y.cps.toList then .str y u else .str x t) { s with heap := h', toks := tk }) :
    wpAny (model prog w) A (call (.builtin "max") [.str x t, .str y u]) Q E s := by
  have hT : (s.heap.push { cls := .type "tuple", data := .seq #[.str x t, .str y u] }).IsTuple s.heap.objs.size #[.str x t, .str y u] := ⟨_, Heap.get?_push_size _ rfl, rfl, 0, rfl⟩
  refine call_max_two (wpAny_pyIter_tuple hT ?_)
  have hsz : (s.heap.push { cls := .type "tuple", data := .seq #[.str x t, .str y u] }).objs.size = s.heap.objs.size + 1 := Heap.size_push ..
  refine ⟨_, [_, s.heap.objs.size], [_], _, _, _, _, rfl, Walks.tuple (A := A.in1) hh _ s.heap.objs.size (by rw [hsz]; exact Nat.ne_of_lt (Nat.lt_succ_self _)) #[.str x t, .str y u],
    ⟨⟨_, Heap.get?_push_size _ rfl, rfl, rfl⟩, hT.push _⟩, fun c hc => ?_, by simp, strs_gt (twoS x y) twoS_val, fun v h' tk hP hk => ?_⟩
  · show c < ((s.heap.push _).push _).objs.size
    rw [Heap.size_push, hsz]
    rcases List.mem_cons.mp hc with rfl | hc
    · rw [hsz]; exact Nat.lt_succ_self _
    · rcases List.mem_cons.mp hc with rfl | hc
      · exact Nat.lt_succ_of_lt (Nat.lt_succ_self _)
      · cases hc
  · refine (?_ : v = if x.cps.toList < y.cps.toList then Value.str y u else Value.str x t) ▸ h h' tk fun c o e => ?_
    · have hP' : (#[Value.str x t, Value.str y u] : Array Value)[argBest (fun i j => decide ((twoS x y j).cps.toList < (twoS x y i).cps.toList)) 1]? = some v := hP
      by_cases hc : x.cps.toList < y.cps.toList
      · rw [show argBest (fun i j => decide ((twoS x y j).cps.toList < (twoS x y i).cps.toList)) 1 = 1 from if_pos (decide_eq_true hc)] at hP'
        rw [if_pos hc]
        exact (Option.some.inj hP').symm
      · rw [show argBest (fun i j => decide ((twoS x y j).cps.toList < (twoS x y i).cps.toList)) 1 = 0 from if_neg fun z => hc (of_decide_eq_true z)] at hP'
        rw [if_neg hc]
        exact (Option.some.inj hP').symm
    · refine hk c o (fun hm => ?_) (Heap.get?_push_of_some _ (Heap.get?_push_of_some _ e))
      rcases List.mem_cons.mp hm with e1 | hm
      · have := Heap.lt_size e; rw [e1, hsz] at this; exact Nat.lt_irrefl _ (Nat.lt_of_succ_lt this)
      · cases hm
theorem min_two_str {x y : Str} {t u : Tok} {Q : Value → Shared → Prop} (hh : A.handled = none)
    (h : ∀ h' tk, (∀ c o, s.heap.get? c = some o → h'.get? c = some o) → Q (if y.cps.toList < x.cps.toList then .str y u else .str x t) { s with heap := h', toks := tk }) :
    wpAny (model prog w) A (call (.builtin "min") [.str x t, .str y u]) Q E s := by
  have hT : (s.heap.push { cls := .type "tuple", data := .seq #[.str x t, .str y u] }).IsTuple s.heap.objs.size #[.str x t, .str y u] := ⟨_, Heap.get?_push_size _ rfl, rfl, 0, rfl⟩
  refine call_min_two (wpAny_pyIter_tuple hT ?_)
  have hsz : (s.heap.push { cls := .type "tuple", data := .seq #[.str x t, .str y u] }).objs.size = s.heap.objs.size + 1 := Heap.size_push ..
  refine ⟨_, [_, s.heap.objs.size], [_], _, _, _, _, rfl, Walks.tuple (A := A.in1) hh _ s.heap.objs.size (by rw [hsz]; exact Nat.ne_of_lt (Nat.lt_succ_self _)) #[.str x t, .str y u],
    ⟨⟨_, Heap.get?_push_size _ rfl, rfl, rfl⟩, hT.push _⟩, fun c hc => ?_, by simp, strs_lt (twoS x y) twoS_val, fun v h' tk hP hk => ?_⟩
  · show c < ((s.heap.push _).push _).objs.size
    rw [Heap.size_push, hsz]
    rcases List.mem_cons.mp hc with rfl | hc
    · rw [hsz]; exact Nat.lt_succ_self _
    · rcases List.mem_cons.mp hc with rfl | hc
      · exact Nat.lt_succ_of_lt (Nat.lt_succ_self _)
      · cases hc
  · refine (?_ : v = if y.cps.toList < x.cps.toList then Value.str y u else Value.str x t) ▸ h h' tk fun c o e => ?_
    · have hP' : (#[Value.str x t, Value.str y u] : Array Value)[argBest (fun i j => decide ((twoS x y i).cps.toList < (twoS x y j).cps.toList)) 1]? = some v := hP
      by_cases hc : y.cps.toList < x.cps.toList
      · rw [show argBest (fun i j => decide ((twoS x y i).cps.toList < (twoS x y j).cps.toList)) 1 = 1 from if_pos (decide_eq_true hc)] at hP'
        rw [if_pos hc]
        exact (Option.some.inj hP').symm
      · rw [show argBest (fun i j => decide ((twoS x y i).cps.toList < (twoS x y j).cps.toList)) 1 = 0 from if_neg fun z => hc (of_decide_eq_true z)] at hP'
        rw [if_neg hc]
        exact (Option.some.inj hP').symm
    · refine hk c o (fun hm => ?_) (Heap.get?_push_of_some _ (Heap.get?_push_of_some _ e))
      rcases List.mem_cons.mp hm with e1 | hm
      · have := Heap.lt_size e; rw [e1, hsz] at this; exact Nat.lt_irrefl _ (Nat.lt_of_succ_lt this)
      · cases hm
end
def maxS (x y : Str) : Str := if x.cps.toList < y.cps.toList then y else x
def minS (x y : Str) : Str := if y.cps.toList < x.cps.toList then y else x
abbrev rTwoS (f : Str → Str → Str) : List V → Hp → VK → Prop := fun xs H Q => ∃ x y, xs = [.str x, .str y] ∧ Q (.str (f x y)) H
theorem cr_maxS {X : Cx} (hc : X.calm = true) : CallR X (.builtin "max") (rTwoS maxS) := by
  intro pins s σ H xs us Q I r h
  obtain ⟨i, j, rfl, q⟩ := h
  obtain ⟨u, w', rfl, ⟨t, rfl⟩, ⟨t', rfl⟩⟩ := vals2 r
  refine max_two_str (I.ok.hd hc) fun h' tk k => ⟨_, H, I.kept k, ?_, q⟩
  unfold maxS
  by_cases hj : i.cps.toList < j.cps.toList
  · rw [if_pos hj, if_pos hj]; exact ⟨_, rfl⟩
  · rw [if_neg hj, if_neg hj]; exact ⟨_, rfl⟩
theorem cr_minS {X : Cx} (hc : X.calm = true) : CallR X (.builtin "min") (rTwoS minS) := by
  intro pins s σ H xs us Q I r h
  obtain ⟨i, j, rfl, q⟩ := h
  obtain ⟨u, w', rfl, ⟨t, rfl⟩, ⟨t', rfl⟩⟩ := vals2 r
  refine min_two_str (I.ok.hd hc) fun h' tk k => ⟨_, H, I.kept k, ?_, q⟩
  unfold minS
  by_cases hj : j.cps.toList < i.cps.toList
  · rw [if_pos hj, if_pos hj]; exact ⟨_, rfl⟩
  · rw [if_neg hj, if_neg hj]; exact ⟨_, rfl⟩
end Cry
/-! The law's own draws: bag, stir, draw, mixed. -/
namespace Cry
open PySem PySem.Spec PyProof.Rows L2
abbrev bigM : Int := 2305843009213693951
section
variable {P : Program} {w : World} {K : PySem.W.Frag} {mg : Str → Option Value} {base : Heap}
/-! ### the bag -/
theorem scBag : FnScope ["script", "total", "cell"] ["script"] (defScope sBag) := ⟨rfl, rfl, rfl, by decide +kernel, rfl, by decide +kernel, by decide +kernel⟩
/-- a bag of which at most n were drawn; its cells stand at c -/
def BagAt (H : Hp) (a c : Addr) (n : Nat) : Prop := ∃ (ns : List Int) (i : Nat) (big cnt total : Int), H a = some (.lst [.ref c, .int i, .int big, .int cnt, .int total]) ∧ H c = some (.lst (ns.map V.int)) ∧
  i ≤ ns.length ∧ 0 ≤ cnt ∧ cnt ≤ n ∧ 0 ≤ total ∧ total < bigM ∧ c ≠ a
theorem BagAt.more {H : Hp} {a c : Addr} {n m : Nat} (h : BagAt H a c n) (l : n ≤ m) : BagAt H a c m := by
  obtain ⟨ns, i, big, cnt, total, h1, h2, h3, h4, h5, h6⟩ := h
  exact ⟨ns, i, big, cnt, total, h1, h2, h3, h4, by omega, h6⟩
theorem BagAt.on {H H' : Hp} {a c : Addr} {n : Nat} (h : BagAt H a c n) (s : Same H H') : BagAt H' a c n := by
  obtain ⟨ns, i, big, cnt, total, h1, h2, r⟩ := h
  exact ⟨ns, i, big, cnt, total, s _ _ h1, s _ _ h2, r⟩
theorem BagAt.lst {H : Hp} {a c : Addr} {n : Nat} (h : BagAt H a c n) : ∃ xs, H a = some (.lst xs) := by
  obtain ⟨ns, i, big, cnt, total, h1, _⟩ := h
  exact ⟨_, h1⟩
theorem BagAt.ts {H H' : Hp} {a c : Addr} {n : Nat} (h : BagAt H a c n) (s : SameO a H H') : TS H H' := by
  obtain ⟨xs, hx⟩ := h.lst
  exact TS.sameO s fun ys e => by
    rw [hx] at e
    cases e
def spBag (K : PySem.W.Frag) : Sp := fun vs H Q _ => ∃ (a : Addr) (ns : List Int), vs = [.ref a] ∧ SqL K H a (ns.map V.int) ∧ ∀ p c H', Same H H' → H p = none → BagAt H' p c 0 → Q (.ref p) H'
theorem ok_bag {f : Addr} {fd : FuncData} (F : Fun K "_law_bag" "_law_bag" sBag f fd) (mL : mg "list" = none) : FnOk P w K mg base CX0 1 f fd ["script"] (spBag K) := by
  refine F.ok scBag (fun vs H Q E h => ?_) (fun cdv A outer s H vs Q E hr h => ?_)
  · obtain ⟨a, ns, rfl, _⟩ := h
    rfl
  · obtain ⟨a, ns, rfl, hS, q⟩ := h
    refine ⟨_, pss_cons (ps_set (i := 1) scBag.nd rfl (Or.inl rfl) pe_int)
      (pss_cons (ps_for PassesOwn.never rfl (pi_list (pv 0)) (pg_name (i := 2) scBag.nd rfl (Or.inl rfl))
        (pss_one (ps_set (i := 1) scBag.nd rfl (Or.inl rfl) (pe_op op_mod (pe_op op_add (pe_op op_add (pe_op op_mul (pv 1) pe_int) (pe_op op_mod (pv 2) pe_int)) pe_int) pe_int))))
      (pss_one (ps_ret (pe_lst (pa_cons (pe_callTy call_list_of (by rfl) mL (by decide +kernel) (pa_cons (pv 0) pa_nil)) (pa_cons pe_int (pa_cons pe_int (pa_cons pe_int (pa_cons (pv 1) pa_nil))))))))), ?_⟩
    refine ⟨_, rfl, a, rfl, ⟨_, hS⟩, for_list (K := K) (a := a) (xs := ns.map V.int) (fun i σ H2 => H2 = H ∧ ∃ (t : Int) (u : Option V), σ = [some (.ref a), some (.int t), u] ∧ 0 ≤ t ∧ t < bigM) ⟨rfl, 1, none, rfl, by decide, by decide⟩ (fun i σ H2 _ ⟨e, _⟩ => by rw [e]; exact hS) ?_ ?_⟩
    · rintro i y σ H2 hy ⟨rfl, t, u, rfl, h0, h1⟩
      obtain ⟨z, rfl⟩ : ∃ z, y = V.int z := by
        rw [List.getElem?_map] at hy
        cases e : ns[i]? with
        | none =>
          rw [e] at hy
          cases hy
        | some z =>
          rw [e] at hy
          exact ⟨z, (Option.some.inj hy).symm⟩
      have hM : (0 : Int) < bigM := by decide
      refine ⟨_, rfl, _, _, rfl, rfl, .inr ⟨by decide, by decide⟩, _, rfl, _, _, rfl, rfl, hM, _, _, rfl, rfl, _, _, rfl, rfl, _, _, rfl, rfl, hM, rfl, _, _, rfl, ?_, ?_⟩
      · exact Int.emod_nonneg _ (by decide)
      · exact Int.emod_lt_of_pos _ hM
    · rintro σ H2 ⟨rfl, t, u, rfl, h0, h1⟩
      refine ⟨_, rfl, a, _, rfl, .inl hS, fun c nc => ?_⟩
      refine ⟨_, rfl, by show 5 ≤ sizeLine; decide, fun p np => ?_⟩
      have s1 : Same H2 (upd H2 c (.lst (ns.map V.int))) := same_new nc
      have s2 := same_new (o := .lst [.ref c, .int 0, .int 0, .int 0, .int t]) np
      have ncp : c ≠ p := fun e => by
        rw [← e, upd_same] at np
        cases np
      exact q p c _ (s1.trans s2) (s1.free np) ⟨ns, 0, 0, 0, t, upd_same, by rw [upd_ne ncp, upd_same], Nat.zero_le _, by decide, by decide, h0, h1, ncp⟩
/-! ### stir -/
theorem scStir : FnScope ["number", "place", "one", "two"] ["number", "place"] (defScope sStir) := ⟨rfl, rfl, rfl, by decide +kernel, rfl, by decide +kernel, by decide +kernel⟩
def spStir : Sp := fun vs H Q _ => ∃ (n k : Int), vs = [.int n, .int k] ∧ 0 ≤ n ∧ n < bigM ∧ 0 ≤ k ∧ k ≤ 10000000 ∧ ∀ r : Int, 0 ≤ r → Q (.int r) H
theorem ok_stir {f : Addr} {fd : FuncData} (F : Fun K "_law_stir" "_law_stir" sStir f fd) : FnOk P w K mg base CX0 1 f fd ["number", "place"] spStir := by
  refine F.ok scStir (fun vs H Q E h => ?_) (fun cdv A outer s H vs Q E hr h => ?_)
  · obtain ⟨n, k, rfl, _⟩ := h
    rfl
  · obtain ⟨n, k, rfl, n0, n1, k0, k1, q⟩ := h
    refine ⟨_, pss_cons (ps_set (i := 2) scStir.nd rfl (Or.inl rfl) (pe_op op_mod (pe_op op_add (pe_op op_add (pe_op op_mul (pv 0) pe_int) (pe_op op_mul (pv 1) pe_int)) pe_int) pe_int))
      (pss_cons (ps_set (i := 3) scStir.nd rfl (Or.inl rfl) (pe_op op_mod (pe_op op_mul (pv 2) (pv 2)) pe_int))
      (pss_one (ps_ret (pe_op op_fdiv (pe_op op_mod (pe_op op_add (pe_op op_add (pe_op op_mul (pv 3) pe_int) (pe_op op_mul (pe_op op_mul (pv 1) (pv 1)) pe_int)) (pe_op op_fdiv (pv 2) pe_int)) pe_int) pe_int)))), ?_⟩
    have hM : (0 : Int) < bigM := by decide
    refine ⟨_, rfl, _, _, rfl, rfl, .inr ⟨by decide, by decide⟩, _, rfl, _, _, rfl, rfl, .inr ⟨by decide, by decide⟩, _, _, rfl, rfl, _, _, rfl, rfl, _, _, rfl, rfl, hM, ?_⟩
    generalize ho : (n * 998244353 + k * 1000000007 + 5) % 2305843009213693951 = o
    have o0 : 0 ≤ o := by rw [← ho]; exact Int.emod_nonneg _ (by decide)
    have o1 : o < bigM := by rw [← ho]; exact Int.emod_lt_of_pos _ hM
    refine ⟨_, rfl, _, rfl, _, _, rfl, rfl, .inl ⟨by omega, by omega⟩, _, _, rfl, rfl, hM, ?_⟩
    generalize ht : o * o % 2305843009213693951 = t
    refine ⟨_, rfl, _, _, rfl, rfl, .inr ⟨by decide, by decide⟩, _, rfl, _, rfl, _, _, rfl, rfl, .inl ⟨by omega, by omega⟩, _, _, rfl, rfl, .inr ⟨by decide, by decide⟩, _, _, rfl, rfl, _, rfl, _, _, rfl, rfl, ⟨by decide, by decide⟩, _, _, rfl, rfl, _, _, rfl, rfl, (by show (0 : Int) < 2305843009213693921; decide), _, _, rfl, rfl, ⟨by decide, by decide⟩, ?_⟩
    exact q _ (Int.ediv_nonneg (Int.emod_nonneg _ (by decide)) (by decide))
/-! ### draw -/
theorem scDraw : FnScope ["bag", "many", "cell", "found"] ["bag", "many"] (defScope sDraw) := ⟨rfl, rfl, rfl, by decide +kernel, rfl, by decide +kernel, by decide +kernel⟩
def spDraw : Sp := fun vs H Q _ => ∃ (a c : Addr) (m : Int) (n : Nat), vs = [.ref a, .int m] ∧ BagAt H a c n ∧ n < 10000000 ∧ 1 ≤ m ∧ m ≤ 1000000000000 ∧ ∀ (r : Int) H', 0 ≤ r → r < m → SameO a H H' → BagAt H' a c (n + 1) → Q (.int r) H'
theorem ok_draw {f f1 : Addr} {fd fd1 : FuncData} (F : Fun K "_law_draw" "_law_draw" sDraw f fd) (mL : mg "len" = none) (D1 : Def K mg "_law_stir" f1 fd1 ["number", "place"]) (G1 : FnOk P w K mg base CX0 1 f1 fd1 ["number", "place"] spStir) : FnOk P w K mg base CX0 2 f fd ["bag", "many"] spDraw := by
  refine F.ok scDraw (fun vs H Q E h => ?_) (fun cdv A outer s H vs Q E hr h => ?_)
  · obtain ⟨a, c, m, n, rfl, _⟩ := h
    rfl
  · obtain ⟨a, c, m, n, rfl, ⟨ns, i, big, cnt, total, ha, hc, hi, c0, c1, t0, t1, nca⟩, nn, m1, m2, q⟩ := h
    refine ⟨_, pss_cons (ps_if (pt_cmpR op_eq (pv 1) pe_int (nomark _)) (pss_one (ps_ret pe_int)) pss_nil)
      (pss_cons (ps_asg (pe_op op_add (pe_ix ix_list (pv 0) pe_int (fun _ _ => rfl)) pe_int) (pg_sub (pv 0) pe_int set_list))
      (pss_cons (ps_if (PW.pt (pw_and (pt_cmpR op_lt (pe_ix ix_list (pv 0) pe_int (fun _ _ => rfl)) pe_int (nomark _)) (pw_and1 (pt_cmpR op_eq (pe_ix ix_list (pv 0) pe_int (fun _ _ => rfl)) (pe_callB call_len_seq (by rfl) mL (by decide +kernel) (pa_cons (pe_ix ix_list (pv 0) pe_int (fun _ _ => rfl)) pa_nil)) (nomark _)))))
          (pss_one (ps_ret (pe_op op_mod (pe_call G1 hr (by rfl) D1.at_ D1.kp D1.b .nil pass0 (pa_cons (pe_ix ix_list (pv 0) pe_int (fun _ _ => rfl)) (pa_cons (pe_ix ix_list (pv 0) pe_int (fun _ _ => rfl)) pa_nil))) (pv 1)))) pss_nil)
      (pss_cons (ps_if (pt_cmpR op_lt (pe_ix ix_list (pv 0) pe_int (fun _ _ => rfl)) pe_int (nomark _))
          (pss_cons (ps_set (i := 2) scDraw.nd rfl (Or.inl rfl) (pe_ix ix_list (pe_ix ix_list (pv 0) pe_int (fun _ _ => rfl)) (pe_ix ix_list (pv 0) pe_int (fun _ _ => rfl)) (fun _ _ => rfl)))
          (pss_cons (ps_asg (pe_op op_add (pe_ix ix_list (pv 0) pe_int (fun _ _ => rfl)) pe_int) (pg_sub (pv 0) pe_int set_list))
          (pss_cons (ps_if (pt_cmpR op_lt (pv 2) (pe_op op_pow pe_int pe_int) (nomark _))
              (pss_one (ps_ret (pe_op op_mod (pe_call G1 hr (by rfl) D1.at_ D1.kp D1.b .nil pass0 (pa_cons (pe_op op_mod (pv 2) pe_int) (pa_cons (pe_ix ix_list (pv 0) pe_int (fun _ _ => rfl)) pa_nil))) (pv 1)))) pss_nil)
          (pss_one (ps_asg (pe_op op_sub (pv 2) (pe_op op_pow pe_int pe_int)) (pg_sub (pv 0) pe_int set_list)))))) pss_nil)
      (pss_cons (ps_set (i := 3) scDraw.nd rfl (Or.inl rfl) (pe_op op_mod (pe_ix ix_list (pv 0) pe_int (fun _ _ => rfl)) (pv 1)))
      (pss_cons (ps_asg (pe_op op_fdivW (pe_ix ix_list (pv 0) pe_int (fun _ _ => rfl)) (pv 1)) (pg_sub (pv 0) pe_int set_list))
      (pss_one (ps_ret (pv 3)))))))), ?_⟩
    have hm0 : (0 : Int) < m := by omega
    -- many == 1
    refine ⟨_, rfl, rfl, _, rfl, ?_⟩
    rw [dec_int]
    by_cases e1 : m = 1
    · rw [decide_eq_true e1]
      exact iteT (q 0 H (by omega) (by omega) (fun _ _ _ e => e) ⟨ns, i, big, cnt, total, ha, hc, hi, c0, by omega, t0, t1, nca⟩)
    · rw [decide_eq_false e1]
      refine iteF ?_
      -- bag[3] = bag[3] + 1
      refine ⟨_, rfl, a, _, 3, _, rfl, rfl, SqL.of ha, atI_nat (j := 3) rfl, _, _, rfl, rfl, ?_⟩
      refine ⟨_, rfl, a, _, 3, 3, rfl, rfl, ha, rfl, ?_⟩
      have at1 : ∀ (i' big' : Int) (H' : Hp), SameO a H H' → H' a = some (.lst [.ref c, .int i', .int big', .int (cnt + 1), .int total]) → H' c = some (.lst (ns.map V.int)) := fun i' big' H' s _ => s c _ nca hc
      have ha1 : (upd H a (.lst [.ref c, .int i, .int big, .int (cnt + 1), .int total])) a = some (.lst [.ref c, .int i, .int big, .int (cnt + 1), .int total]) := upd_same
      have hc1 : (upd H a (.lst [.ref c, .int i, .int big, .int (cnt + 1), .int total])) c = some (.lst (ns.map V.int)) := by
        rw [upd_ne nca]
        exact hc
      have so1 : SameO a H (upd H a (.lst [.ref c, .int i, .int big, .int (cnt + 1), .int total])) := sameO_at
      have fin1 : ∀ r : Int, 0 ≤ r → Q (.int (r % m)) (upd H a (.lst [.ref c, .int i, .int big, .int (cnt + 1), .int total])) := fun r hr0 =>
        q _ _ (Int.emod_nonneg _ (by omega)) (Int.emod_lt_of_pos _ hm0) so1 ⟨ns, i, big, cnt + 1, total, ha1, hc1, hi, by omega, by omega, t0, t1, nca⟩
      -- what stands behind the two ifs
      have last : ∀ (i' : Nat) (b' : Int) (u : Option V) (H2 : Hp), SameO a H H2 → H2 a = some (.lst [.ref c, .int i', .int b', .int (cnt + 1), .int total]) → i' ≤ ns.length →
          (tSeq (tAsg (tOp (rI (fun _ j => 0 < j) fun i j => .int (i % j)) (tOp (rIxL K) (tVar 0) (tC (.int 2))) (tVar 1)) (gName 3)) (tSeq (tAsg (tOp (rI CDivW fun i j => .int (i / j)) (tOp (rIxL K) (tVar 0) (tC (.int 2))) (tVar 1)) (gSub (tVar 0) (tC (.int 2)) rSetL)) (tRet (tVar 3))))
            { nx := fun _ H' => Q .non H', rt := Q } [some (.ref a), some (.int m), u, none] H2 := by
        intro i' b' u H2 so h2 hi'
        refine ⟨_, rfl, a, _, 2, _, rfl, rfl, SqL.of h2, atI_nat (j := 2) rfl, _, rfl, _, _, rfl, rfl, hm0, ?_⟩
        refine ⟨_, rfl, a, _, 2, _, rfl, rfl, SqL.of h2, atI_nat (j := 2) rfl, _, rfl, _, _, rfl, rfl, wide_div (b := 40) hm0 (by omega) (by decide) (by decide), ?_⟩
        refine ⟨_, rfl, a, _, 2, 2, rfl, rfl, h2, rfl, ?_⟩
        refine ⟨_, rfl, q _ _ (Int.emod_nonneg _ (by omega)) (Int.emod_lt_of_pos _ hm0) (so.trans sameO_at) ⟨ns, i', _, cnt + 1, total, upd_same, ?_, hi', by omega, by omega, t0, t1, nca⟩⟩
        rw [upd_ne nca]
        exact so c _ nca hc
      -- the next cell, or the figures left
      have behind : ∀ Dx : Ends, Dx = { nx := fun _ H' => Q .non H', rt := Q } → ¬ (big < 2 ∧ i = ns.length) → tSeq (tIfS (tTest (tOp (rI0 fun i j => .bl (decide (i < j))) (tOp (rIxL K) (tVar 0) (tC (.int 2))) (tC (.int 2))))
          (tSeq (tAsg (tOp (rIxL K) (tOp (rIxL K) (tVar 0) (tC (.int 0))) (tOp (rIxL K) (tVar 0) (tC (.int 1)))) (gName 2))
            (tSeq (tAsg (tOp (rI0 fun i j => .int (i + j)) (tOp (rIxL K) (tVar 0) (tC (.int 1))) (tC (.int 1))) (gSub (tVar 0) (tC (.int 1)) rSetL))
            (tSeq (tIfS (tTest (tOp (rI0 fun i j => .bl (decide (i < j))) (tVar 2) (tOp (rI CPow fun i j => .int (i ^ j.toNat)) (tC (.int 10)) (tC (.int 18)))))
                (tRet (tOp (rI (fun _ j => 0 < j) fun i j => .int (i % j)) (tCall spStir [] (fun _ _ _ => False) (tCons (tOp (rI (fun _ j => 0 < j) fun i j => .int (i % j)) (tVar 2) (tC (.int 2305843009213693951))) (tCons (tOp (rIxL K) (tVar 0) (tC (.int 3))) tNil))) (tVar 1))) tNext)
              (tAsg (tOp (rI0 fun i j => .int (i - j)) (tVar 2) (tOp (rI CPow fun i j => .int (i ^ j.toNat)) (tC (.int 10)) (tC (.int 18)))) (gSub (tVar 0) (tC (.int 2)) rSetL))))) tNext)
          (tSeq (tAsg (tOp (rI (fun _ j => 0 < j) fun i j => .int (i % j)) (tOp (rIxL K) (tVar 0) (tC (.int 2))) (tVar 1)) (gName 3)) (tSeq (tAsg (tOp (rI CDivW fun i j => .int (i / j)) (tOp (rIxL K) (tVar 0) (tC (.int 2))) (tVar 1)) (gSub (tVar 0) (tC (.int 2)) rSetL)) (tRet (tVar 3))))
          Dx [some (.ref a), some (.int m), none, none] (upd H a (.lst [.ref c, .int i, .int big, .int (cnt + 1), .int total])) := by
        rintro _ rfl no
        refine ⟨_, rfl, a, _, 2, _, rfl, rfl, SqL.of ha1, atI_nat (j := 2) rfl, _, _, rfl, rfl, _, rfl, ?_⟩
        by_cases b2 : big < 2
        · rw [decide_eq_true b2]
          refine iteT ?_
          have lt : i < ns.length := by
            have : i ≠ ns.length := fun e => no ⟨b2, e⟩
            omega
          have ec : (ns.map V.int)[i]? = some (.int ns[i]) := by simp [lt]
          refine ⟨_, rfl, a, _, 0, _, rfl, rfl, SqL.of ha1, atI_nat (j := 0) rfl, _, rfl, a, _, 1, _, rfl, rfl, SqL.of ha1, atI_nat (j := 1) rfl, c, _, _, _, rfl, rfl, SqL.of hc1, atI_nat ec, ?_⟩
          refine ⟨_, rfl, a, _, 1, _, rfl, rfl, SqL.of ha1, atI_nat (j := 1) rfl, _, _, rfl, rfl, ?_⟩
          refine ⟨_, rfl, a, _, 1, 1, rfl, rfl, ha1, rfl, ?_⟩
          have ei : (i : Int) + 1 = ((i + 1 : Nat) : Int) := by omega
          show tSeq _ _ _ _ (upd _ a (.lst [.ref c, .int ((i : Int) + 1), .int big, .int (cnt + 1), .int total]))
          rw [ei]
          have so2 := so1.trans (sameO_at (o := .lst [.ref c, .int ((i + 1 : Nat) : Int), .int big, .int (cnt + 1), .int total]))
          refine ⟨_, rfl, _, _, rfl, rfl, ⟨by decide, by decide, by decide⟩, _, _, rfl, rfl, _, rfl, ?_⟩
          by_cases lc : ns[i] < 10 ^ (18 : Int).toNat
          · rw [decide_eq_true lc]
            refine iteT ⟨_, rfl, _, _, rfl, rfl, (by show (0 : Int) < bigM; decide), _, rfl, a, _, 3, _, rfl, rfl, SqL.of upd_same, atI_nat (j := 3) rfl, _, _, rfl, Int.emod_nonneg _ (by decide), Int.emod_lt_of_pos _ (by decide), by omega, by omega, fun r hr0 => ?_⟩
            refine ⟨_, rfl, _, _, rfl, rfl, hm0, ?_⟩
            refine q _ _ (Int.emod_nonneg _ (by omega)) (Int.emod_lt_of_pos _ hm0) so2 ⟨ns, i + 1, big, cnt + 1, total, upd_same, ?_, lt, by omega, by omega, t0, t1, nca⟩
            rw [upd_ne nca]
            exact hc1
          · rw [decide_eq_false lc]
            refine iteF ?_
            refine ⟨_, rfl, _, _, rfl, rfl, ⟨by decide, by decide, by decide⟩, _, _, rfl, rfl, ?_⟩
            refine ⟨_, rfl, a, _, 2, 2, rfl, rfl, upd_same, rfl, ?_⟩
            exact last (i + 1) _ _ _ (so2.trans sameO_at) upd_same lt
        · rw [decide_eq_false b2]
          refine iteF ?_
          exact last i big _ _ so1 ha1 hi
      refine ⟨_, rfl, a, _, 2, _, rfl, rfl, SqL.of ha1, atI_nat (j := 2) rfl, _, _, rfl, rfl, _, rfl, ?_⟩
      by_cases b2 : big < 2
      · rw [decide_eq_true b2]
        refine iteT ⟨_, rfl, a, _, 1, _, rfl, rfl, SqL.of ha1, atI_nat (j := 1) rfl, _, rfl, a, _, 0, _, rfl, rfl, SqL.of ha1, atI_nat (j := 0) rfl, c, _, rfl, .inl (SqL.of hc1), rfl, _, rfl, ?_⟩
        rw [dec_int]
        by_cases ei : i = ns.length
        · rw [decide_eq_true (show (i : Int) = ((ns.map V.int).length : Nat) by rw [List.length_map, ei])]
          refine iteT ⟨_, rfl, a, _, 4, _, rfl, rfl, SqL.of ha1, atI_nat (j := 4) rfl, _, rfl, a, _, 3, _, rfl, rfl, SqL.of ha1, atI_nat (j := 3) rfl, _, _, rfl, t0, t1, by omega, by omega, fun r hr0 => ?_⟩
          exact ⟨_, rfl, _, _, rfl, rfl, hm0, fin1 r hr0⟩
        · rw [decide_eq_false (show ¬ (i : Int) = ((ns.map V.int).length : Nat) by rw [List.length_map]; omega)]
          refine iteF ?_
          exact behind _ rfl fun z => ei z.2
      · rw [decide_eq_false b2]
        refine iteF (iteF ?_)
        exact behind _ rfl fun z => b2 z.1
end
end Cry
namespace Cry
open PySem PySem.Spec PyProof.Rows L2
/-! The law's own draws: a row mixed. -/
section
variable {P : Program} {w : World} {K : PySem.W.Frag} {mg : Str → Option Value} {base : Heap}
theorem BagAt.up {H : Hp} {a c : Addr} {n : Nat} {p : Addr} {o : HO} (h : BagAt H a c n) (na : p ≠ a) (nc : p ≠ c) : BagAt (upd H p o) a c n := by
  obtain ⟨ns, i, big, cnt, total, h1, h2, r⟩ := h
  exact ⟨ns, i, big, cnt, total, by rw [upd_ne (Ne.symm na)]; exact h1, by rw [upd_ne (Ne.symm nc)]; exact h2, r⟩
theorem BagAt.neA {H : Hp} {a c : Addr} {n : Nat} {p : Addr} (h : BagAt H a c n) (np : H p = none) : p ≠ a := by
  obtain ⟨ns, i, big, cnt, total, h1, h2, r⟩ := h
  rintro rfl
  rw [np] at h1
  cases h1
theorem BagAt.neC {H : Hp} {a c : Addr} {n : Nat} {p : Addr} (h : BagAt H a c n) (np : H p = none) : p ≠ c := by
  obtain ⟨ns, i, big, cnt, total, h1, h2, r⟩ := h
  rintro rfl
  rw [np] at h2
  cases h2
theorem BagAt.new {H : Hp} {a c : Addr} {n : Nat} {p : Addr} {o : HO} (h : BagAt H a c n) (np : H p = none) : BagAt (upd H p o) a c n := h.up (h.neA np) (h.neC np)
theorem scMixed : FnScope ["bag", "row", "left", "k"] ["bag", "row"] (defScope sMixed) := ⟨rfl, rfl, rfl, by decide +kernel, rfl, by decide +kernel, by decide +kernel⟩
def spMixed (K : PySem.W.Frag) : Sp := fun vs H Q _ => ∃ (a c b : Addr) (n : Nat) (xs : List V), vs = [.ref a, .ref b] ∧ BagAt H a c n ∧ SqL K H b xs ∧ n + xs.length < 10000000 ∧ xs.length ≤ 10000 ∧ ∀ (l : Addr) (ys : List V) (H' : Hp), H l = none → SameO a H H' → H' l = some (.lst ys) → ys.Perm xs → BagAt H' a c (n + xs.length) → Q (.ref l) H'
theorem ok_mixed {f f1 : Addr} {fd fd1 : FuncData} (F : Fun K "_law_mixed" "_law_mixed" sMixed f fd) (mL : mg "len" = none) (mT : mg "list" = none) (mR : mg "range" = none) (D1 : Def K mg "_law_draw" f1 fd1 ["bag", "many"]) (G1 : FnOk P w K mg base CX0 2 f1 fd1 ["bag", "many"] spDraw) : FnOk P w K mg base CX0 3 f fd ["bag", "row"] (spMixed K) := by
  refine F.ok scMixed (fun vs H Q E h => ?_) (fun cdv A outer s H vs Q E hr h => ?_)
  · obtain ⟨a, c, b, n, xs, rfl, _⟩ := h
    rfl
  · obtain ⟨a, c, b, n, xs, rfl, hB, hb, nn, nx, q⟩ := h
    refine ⟨_, pss_cons (ps_set (i := 2) scMixed.nd rfl (Or.inr rfl) (pe_callTy call_list_of (by rfl) mT (by decide +kernel) (pa_cons (pv 1) pa_nil)))
      (pss_one (ps_ret (pe_lc (own := [("k", 3)]) (g := gName 3) (tt := tYes)
        (te := tBM K "list" rPopAt (tVar 2) (tCons (tCall spDraw [] (fun _ _ _ => False) (tCons (tVar 0) (tCons (tCB (rLenS K) (tCons (tVar 2) tNil)) tNil))) tNil)) rfl scMixed.nd
        (pi_range1 (by rfl) mR (pa_cons (pe_callB cr_lenS (by rfl) mL (by decide +kernel) (pa_cons (pv 1) pa_nil)) pa_nil))
        (blkOk_by (N := ["bag", "row", "left", "k"]) (sc := defScope sMixed) (by decide +kernel))
        (fun _ _ _ _ _ => pg_name (i := 3) scMixed.nd rfl (Or.inl rfl)) (fun _ _ _ _ _ => pts_nil)
        (fun _ _ _ _ _ => pe_bm PySem.F.plainAttrs_list PySem.F.slot_list_pop PySem.F.type_list_pop mt_popAt (pv 2) (pa_cons (pe_call G1 (hr.mono (by decide)) (by rfl) D1.at_ D1.kp D1.b .nil pass0 (pa_cons (pv 0) (pa_cons (pe_callB cr_lenS (by rfl) mL (by decide +kernel) (pa_cons (pv 2) pa_nil)) pa_nil))) pa_nil))))), ?_⟩
    have hxs : SqL K H b xs := hb
    refine ⟨_, rfl, b, xs, rfl, .inl hb, fun l nl => ?_⟩
    have s1 : Same H (upd H l (.lst xs)) := same_new nl
    have nla := hB.neA nl
    refine ⟨_, rfl, b, xs, rfl, .inl (s1.seq hb), xs.length, rfl, by omega, by omega, fun D nD => ?_⟩
    have nDl : l ≠ D := by
      rintro rfl
      rw [upd_same] at nD
      cases nD
    have nDH : H D = none := by
      rw [upd_ne (Ne.symm nDl)] at nD
      exact nD
    have B1 : BagAt (upd H l (.lst xs)) a c n := hB.new nl
    have nDa := B1.neA nD
    refine lc_it (walk_range (lo := 0) (n := xs.length)) (fun i H2 => ∃ acc L, H2 D = some (.lst acc) ∧ H2 l = some (.lst L) ∧ (acc ++ L).Perm xs ∧ acc.length = i ∧ BagAt H2 a c (n + i) ∧ SameO a H H2)
      ⟨[], xs, upd_same, by rw [upd_ne nDl, upd_same], .refl _, rfl, B1.new nD, sameO_new (SameO.of s1) nDH⟩ (fun _ _ _ _ => True.intro) ?_ ?_
    · rintro i x H2 H3 hi ⟨acc, L, hacc, hL, pm, la, hB2, so⟩ ⟨rfl, rfl⟩
      have len : acc.length + L.length = xs.length := by
        have := pm.length_eq
        rwa [List.length_append] at this
      refine ⟨rfl, _, rfl, .inl ⟨rfl, _, SqL.of hL⟩, _, rfl, _, rfl, l, L, rfl, .inl (SqL.of hL), ?_⟩
      refine ⟨a, c, L.length, n + i, rfl, hB2, by omega, by omega, by omega, fun r H4 r0 r1 so4 hB4 => ?_⟩
      have hL4 := so4 l _ nla hL
      have hacc4 := so4 D _ nDa hacc
      have lt : r.toNat < L.length := by omega
      refine ⟨l, L, r, r.toNat, L[r.toNat], rfl, rfl, hL4, by omega, by omega, seqIx_nat r0 r1, List.getElem?_eq_getElem lt, acc, ?_, ?_, acc ++ [L[r.toNat]], L.eraseIdx r.toNat, upd_same, ?_, ?_, ?_, ?_, ?_⟩
      · rw [upd_ne (Ne.symm nDl)]
        exact hacc4
      · exact Nat.lt_of_lt_of_le (show acc.length < 20000 by omega) (by decide)
      · rw [upd_ne nDl, upd_same]
      · rw [List.append_assoc]
        exact ((eraseIdx_perm (List.getElem?_eq_getElem lt)).append_left acc).trans pm
      · simp [la]
      · exact (hB4.up nla (hB.neC nl)).up nDa (B1.neC nD)
      · exact sameO_new (sameO_new (so.trans so4) nl) nDH
    · rintro H2 ⟨acc, L, hacc, hL, pm, la, hB2, so⟩
      have len : acc.length + L.length = xs.length := by
        have := pm.length_eq
        rwa [List.length_append] at this
      have e : L = [] := List.length_eq_zero_iff.mp (by omega)
      rw [e, List.append_nil] at pm
      exact q D acc H2 nDH so hacc pm hB2
end
end Cry
namespace Cry
open PySem PySem.Spec PyProof.Rows L2
/-! The law's own draws: names. -/
section
variable {P : Program} {w : World} {K : PySem.W.Frag} {mg : Str → Option Value} {base : Heap}
theorem SameO.free {H H' : Hp} {a c p : Addr} {n : Nat} (so : SameO a H H') (hB : BagAt H' a c n) (np : H' p = none) : H p = none := by
  cases e : H p with
  | none => rfl
  | some o =>
    have := so p o (fun z => hB.neA np z) e
    rw [np] at this
    cases this
theorem scNames : FnScope ["bag", "many", "pool", "sign"] ["bag", "many"] (defScope sNames) := ⟨rfl, rfl, rfl, by decide +kernel, rfl, by decide +kernel, by decide +kernel⟩
def spNames : Sp := fun vs H Q _ => ∃ (a c : Addr) (n m : Nat), vs = [.ref a, .int m] ∧ BagAt H a c n ∧ n + 100 < 10000000 ∧ 1 ≤ m ∧ ∀ (l : Addr) (names : List Str) (H' : Hp), H l = none → SameO a H H' → H' l = some (.lst (names.map V.str)) → NamesOk names m → BagAt H' a c (n + 100) → Q (.ref l) H'
theorem sign_ok : ∀ c ∈ abc.cps.toList, nameOkS ⟨#[c]⟩ = true ∧ nameOkS ((⟨#[c]⟩ : Str) ++ "a") = true ∧ nameOkS (("z" : Str) ++ ⟨#[c]⟩) = true := by decide +kernel
theorem ok_names {f f1 : Addr} {fd fd1 : FuncData} (F : Fun K "_law_names" "_law_names" sNames f fd) (mS : mg "sorted" = none) (mT : mg "set" = none) (D1 : Def K mg "_law_mixed" f1 fd1 ["bag", "row"]) (G1 : FnOk P w K mg base CX0 3 f1 fd1 ["bag", "row"] (spMixed K)) : FnOk P w K mg base CX0 4 f fd ["bag", "many"] spNames := by
  refine F.ok scNames (fun vs H Q E h => ?_) (fun cdv A outer s H vs Q E hr h => ?_)
  · obtain ⟨a, c, n, m, rfl, _⟩ := h
    rfl
  · obtain ⟨a, c, n, m, rfl, hB, nn, m1, q⟩ := h
    refine ⟨_, pss_cons (ps_set (i := 2) scNames.nd rfl (Or.inl rfl) (pe_lst (pa_cons pe_str (pa_cons pe_str (pa_cons pe_str (pa_cons pe_str (pa_cons pe_str (pa_cons pe_str (pa_cons pe_str (pa_cons pe_str pa_nil))))))))))
      (pss_cons (ps_for PassesOwn.never rfl (pi_str pe_str) (pg_name (i := 3) scNames.nd rfl (Or.inl rfl))
        (pss_one (ps_expr (pe_bm PySem.F.plainAttrs_list PySem.F.slot_list_extend PySem.F.type_list_extend mt_extend (pv 2) (pa_cons (pe_lst (pa_cons (pv 3) (pa_cons (pe_op op_add_str (pv 3) pe_str) (pa_cons (pe_op op_add_str pe_str (pv 3)) pa_nil)))) pa_nil)))))
      (pss_one (ps_ret (pe_callB (cr_sortedT hr.units) (by rfl) mS (by decide +kernel) (pa_cons (pe_slice sl_list
        (pe_call G1 (hr.mono (by decide)) (by rfl) D1.at_ D1.kp D1.b .nil pass0 (pa_cons (pv 0) (pa_cons (pe_callB (cr_sortedK rfl hr.units) (by rfl) mS (by decide +kernel) (pa_cons (pe_callTy (cr_setK rfl) (by rfl) mT (by decide +kernel) (pa_cons (pv 2) pa_nil)) pa_nil)) pa_nil))) po_none (po_some (pv 1))) pa_nil))))), ?_⟩
    refine ⟨by show 8 ≤ sizeLine; decide, fun p np => ?_⟩
    have npa := hB.neA np
    refine ⟨_, rfl, ?_⟩
    refine for_it (walk_str (z := abc)) (fun i σ H2 => ∃ (zs : List Str) (u : Option V), σ = [some (.ref a), some (.int m), some (.ref p), u] ∧ zs.length = 8 + 3 * i ∧ (∀ z ∈ zs, nameOkS z = true) ∧ H2 p = some (.lst (zs.map V.str)) ∧ Same H H2)
      ⟨["abcdefgh", "abcdefgi", "zzzzzzzz", "folk", "way", "on", "back", "now"], none, rfl, rfl, by decide +kernel, upd_same, same_new np⟩ (fun _ _ _ _ _ => True.intro) ?_ ?_
    · rintro i x σ H2 H3 hi ⟨zs, u, rfl, zl, zo, hp, s2⟩ ⟨rfl, ch, ec, rfl⟩
      have mc : ch ∈ abc.cps.toList := by
        have := List.mem_of_getElem? (l := abc.cps.toList) (i := i) (a := ch) (by simpa using ec)
        exact this
      obtain ⟨o1, o2, o3⟩ := sign_ok ch mc
      refine ⟨_, rfl, .inl ⟨rfl, _, SqL.of hp⟩, _, rfl, _, rfl, _, _, rfl, rfl, by show 1 + 1 ≤ sizeLine; decide, _, rfl, _, _, rfl, rfl, by show 1 + 1 ≤ sizeLine; decide, by show 3 ≤ sizeLine; decide, fun b nb => ?_⟩
      have hp4 := same_new (o := .lst [.str ⟨#[ch]⟩, .str ((⟨#[ch]⟩ : Str) ++ "a"), .str (("z" : Str) ++ ⟨#[ch]⟩)]) nb _ _ hp
      have li : i < 26 := hi
      refine ⟨p, b, _, _, rfl, rfl, hp4, upd_same, ?_, zs ++ [⟨#[ch]⟩, (⟨#[ch]⟩ : Str) ++ "a", ("z" : Str) ++ ⟨#[ch]⟩], _, rfl, ?_, ?_, ?_, same_at (s2.trans (same_new nb)) np⟩
      · rw [List.length_map, zl]
        exact Nat.le_trans (show 8 + 3 * i + 3 ≤ 100 by omega) (by decide)
      · rw [List.length_append, zl]
        show 8 + 3 * i + 3 = _
        omega
      · intro z hz
        rcases List.mem_append.mp hz with h | h
        · exact zo z h
        · simp only [List.mem_cons, List.not_mem_nil, or_false] at h
          rcases h with rfl | rfl | rfl
          · exact o1
          · exact o2
          · exact o3
      · rw [upd_same, List.map_append]
        rfl
    · rintro σ H2 ⟨zs, u, rfl, zl, zo, hp, s2⟩
      have zl2 : zs.length = 86 := zl
      have B2 := hB.on s2
      refine ⟨_, rfl, _, rfl, p, zs.map Sum.inr, rfl, .inl ?_, ?_, fun p1 np1 => ?_⟩
      · rw [List.map_map]
        exact SqL.of hp
      · rw [List.length_map, zl2]
        decide
      have ka : ∀ k ∈ dedK (zs.map Sum.inr), ∃ x, k = Sum.inr x := fun k hk => by
        obtain ⟨x, _, rfl⟩ := List.mem_map.mp (dedK_mem.mp hk)
        exact ⟨x, rfl⟩
      refine ⟨p1, _, rfl, upd_same, .inr ka, fun ls p2 pm pw np2 => ?_⟩
      obtain ⟨ts, rfl⟩ := keys_str fun k hk => ka k (pm.mem_iff.mp hk)
      have ndt : ts.Nodup := by
        have := (pm.nodup_iff).mpr (dedK_nodup (zs.map Sum.inr))
        exact List.Pairwise.of_map Sum.inr (fun a b h e => h (congrArg _ e)) this
      have tok : ∀ x ∈ ts, nameOkS x = true := fun x hx => by
        have := dedK_mem.mp (pm.mem_iff.mp (List.mem_map.mpr ⟨x, hx, rfl⟩))
        obtain ⟨y, hy, e⟩ := List.mem_map.mp this
        cases e
        exact zo x hy
      have tl : ts.length ≤ 86 := by
        have h1 := pm.length_eq
        have h2 := dedK_len (zs.map (Sum.inr : Str → Key))
        rw [List.length_map] at h1 h2
        omega
      have t1 : 1 ≤ ts.length := by
        obtain ⟨z, hz⟩ : ∃ z, z ∈ zs := List.exists_mem_of_length_pos (by omega)
        have := pm.mem_iff.mpr (dedK_mem.mpr (List.mem_map.mpr ⟨z, hz, rfl⟩))
        have := List.length_pos_of_mem this
        rwa [List.length_map] at this
      have s3 : Same H2 (upd H2 p1 (KO w p1 (dedK (zs.map Sum.inr)))) := same_new np1
      have s4 := s3.trans (same_new (o := .lst ((ts.map Sum.inr).map kV)) np2)
      refine ⟨a, c, p2, n, (ts.map Sum.inr).map kV, rfl, B2.on s4, SqL.of upd_same, ?_, ?_, fun l ys H5 nl so hl pm5 hB5 => ?_⟩
      · rw [List.length_map, List.length_map]
        omega
      · rw [List.length_map, List.length_map]
        omega
      rw [List.length_map, List.length_map] at hB5
      obtain ⟨us, rfl, pu⟩ := perm_map_inv (f := V.str) pm5 ts (by rw [List.map_map]; rfl)
      refine ⟨_, rfl, _, rfl, l, _, rfl, SqL.of hl, fun l2 nl2 => ?_⟩
      refine ⟨l2, us.take m, rfl, ?_, fun p3 np3 => ?_⟩
      · rw [← cut_take]
        exact SqL.of upd_same
      have soH : SameO a H H5 := (SameO.of (s2.trans s4)).trans so
      have B6 : BagAt (upd H5 l2 (.lst (cutV (us.map V.str) none (some (m : Int))))) a c (n + ts.length) := hB5.new nl2
      have so6 := sameO_new (o := .lst (cutV (us.map V.str) none (some (m : Int)))) soH (soH.free hB5 nl2)
      have so7 := sameO_new (o := .lst ((sortB PyData.str (us.take m)).map V.str)) so6 (so6.free B6 np3)
      have ndu : us.Nodup := pu.nodup_iff.mpr ndt
      have ul : us.length = ts.length := pu.length_eq
      refine q p3 (sortB PyData.str (us.take m)) _ (so6.free B6 np3) so7 upd_same ⟨fun x hx => ?_, ?_, ?_, sortS_rise (ndu.sublist (List.take_sublist _ _)), ?_, sortS_pw (ndu.sublist (List.take_sublist _ _))⟩ ?_
      · exact tok x (pu.mem_iff.mp (List.mem_of_mem_take ((sortB_perm _ _).mem_iff.mp hx)))
      · rw [(sortB_perm _ _).length_eq, List.length_take]
        omega
      · rw [(sortB_perm _ _).length_eq, List.length_take]
        omega
      · exact (sortB_perm _ _).nodup_iff.mpr (ndu.sublist (List.take_sublist _ _))
      · exact (B6.new np3).more (by omega)
end
end Cry
namespace Cry
open PySem PySem.Spec PyProof.Rows L2
/-! The law's own draws: beats. -/
section
variable {P : Program} {w : World} {K : PySem.W.Frag} {mg : Str → Option Value} {base : Heap}
theorem scBeats : FnScope ["bag", "near", "some"] ["bag", "near"] (defScope sBeats) := ⟨rfl, rfl, rfl, by decide +kernel, rfl, by decide +kernel, by decide +kernel⟩
def spBeats : Sp := fun vs H Q _ => ∃ (a c : Addr) (n : Nat) (near : Bool), vs = [.ref a, .bl near] ∧ BagAt H a c n ∧ n + 10 < 10000000 ∧ ∀ (r : Int) (H' : Hp), 1 ≤ r → r ≤ 1000000000000 → (near = true → r ≤ 9) → SameO a H H' → BagAt H' a c (n + 4) → Q (.int r) H'
theorem ok_beats {f f1 : Addr} {fd fd1 : FuncData} (F : Fun K "_law_beats" "_law_beats" sBeats f fd) (D1 : Def K mg "_law_draw" f1 fd1 ["bag", "many"]) (G1 : FnOk P w K mg base CX0 2 f1 fd1 ["bag", "many"] spDraw) : FnOk P w K mg base CX0 3 f fd ["bag", "near"] spBeats := by
  refine F.ok scBeats (fun vs H Q E h => ?_) (fun cdv A outer s H vs Q E hr h => ?_)
  · obtain ⟨a, c, n, near, rfl, _⟩ := h
    rfl
  · obtain ⟨a, c, n, near, rfl, hB, nn, q⟩ := h
    have hr1 := hr
    refine ⟨_, pss_cons (ps_set (i := 2) scBeats.nd rfl (Or.inl rfl) (pe_lst (pa_cons pe_int (pa_cons (pe_op op_add pe_int (pe_call G1 hr (by rfl) D1.at_ D1.kp D1.b .nil pass0 (pa_cons (pv 0) (pa_cons pe_int pa_nil))))
        (pa_cons (pe_op op_add pe_int (pe_call G1 hr (by rfl) D1.at_ D1.kp D1.b .nil pass0 (pa_cons (pv 0) (pa_cons pe_int pa_nil))))
        (pa_cons (pe_op op_add pe_int (pe_call G1 hr (by rfl) D1.at_ D1.kp D1.b .nil pass0 (pa_cons (pv 0) (pa_cons (pe_ifExp (pt_val (pv 1)) pe_int (pe_op op_pow pe_int pe_int)) pa_nil)))) pa_nil))))))
      (pss_one (ps_ret (pe_ix ix_list (pv 2) (pe_call G1 hr (by rfl) D1.at_ D1.kp D1.b .nil pass0 (pa_cons (pv 0) (pa_cons pe_int pa_nil))) (fun _ _ => rfl)))), ?_⟩
    refine ⟨_, rfl, a, c, 3, n, rfl, hB, by omega, by decide, by decide, fun r1 H1 a1 b1 s1 B1 => ⟨_, _, rfl, rfl, ?_⟩⟩
    refine ⟨_, rfl, a, c, 9, n + 1, rfl, B1, by omega, by decide, by decide, fun r2 H2 a2 b2 s2 B2 => ⟨_, _, rfl, rfl, ?_⟩⟩
    have fin : ∀ (y : Int) (H3 : Hp), 1 ≤ y → y ≤ 1000000000000 → (near = true → y ≤ 9) → SameO a H2 H3 → BagAt H3 a c (n + 3) → ∀ p, H3 p = none →
        (tRet (tOp (rIxL K) (tVar 2) (tCall spDraw [] E0 (tCons (tVar 0) (tCons (tC (.int 4)) tNil))))) { nx := fun _ H' => Q V.non H', rt := Q } [some (.ref a), some (.bl near), some (.ref p)] (upd H3 p (.lst [.int 1, .int (1 + r1), .int (1 + r2), .int y])) := by
      intro y H3 y1 y2 y3 s3 B3 p np
      have B4 := B3.new (o := .lst [.int 1, .int (1 + r1), .int (1 + r2), .int y]) np
      have npa := B3.neA np
      have so3 : SameO a H H3 := (s1.trans s2).trans s3
      have so4 := sameO_new (o := .lst [.int 1, .int (1 + r1), .int (1 + r2), .int y]) so3 (so3.free B3 np)
      refine ⟨_, rfl, _, rfl, a, c, 4, n + 3, rfl, B4, by omega, by decide, by decide, fun r4 H4 a4 b4 s4 B5 => ?_⟩
      have hp4 := s4 p _ npa upd_same
      have so5 := so4.trans s4
      have done : ∀ z : Int, 1 ≤ z → z ≤ 1000000000000 → (near = true → z ≤ 9) → Q (.int z) H4 := fun z h1 h2 h3 => q z H4 h1 h2 h3 so5 B5
      have c4 : r4 = 0 ∨ r4 = 1 ∨ r4 = 2 ∨ r4 = 3 := by omega
      rcases c4 with rfl | rfl | rfl | rfl
      · exact ⟨p, _, 0, _, rfl, rfl, SqL.of hp4, atI_nat (j := 0) rfl, done _ (by decide) (by decide) (fun _ => by decide)⟩
      · exact ⟨p, _, 1, _, rfl, rfl, SqL.of hp4, atI_nat (j := 1) rfl, done _ (by omega) (by omega) (fun _ => by omega)⟩
      · exact ⟨p, _, 2, _, rfl, rfl, SqL.of hp4, atI_nat (j := 2) rfl, done _ (by omega) (by omega) (fun _ => by omega)⟩
      · exact ⟨p, _, 3, _, rfl, rfl, SqL.of hp4, atI_nat (j := 3) rfl, done _ y1 y2 y3⟩
    cases near with
    | true =>
      refine ⟨_, rfl, _, rfl, _, rfl, iteT ⟨a, c, 9, n + 2, rfl, B2, by omega, by decide, by decide, fun r3 H3 a3 b3 s3 B3 => ⟨_, _, rfl, rfl, by show 4 ≤ sizeLine; decide, fun p np => ?_⟩⟩⟩
      exact fin (1 + r3) H3 (by omega) (by omega) (fun _ => by omega) s3 B3 p np
    | false =>
      refine ⟨_, rfl, _, rfl, _, rfl, iteF ⟨_, _, rfl, rfl, ⟨by decide, by decide, by decide⟩, a, c, 10 ^ 12, n + 2, rfl, B2, by omega, by decide, by decide, fun r3 H3 a3 b3 s3 B3 => ⟨_, _, rfl, rfl, by show 4 ≤ sizeLine; decide, fun p np => ?_⟩⟩⟩
      exact fin (1 + r3) H3 (by omega) (by omega) (fun e => nomatch e) s3 B3 p np
end
end Cry
namespace Cry
open PySem PySem.Spec PyProof.Rows L2
/-! The law's own draws: a web. -/
section
variable {P : Program} {w : World} {K : PySem.W.Frag} {mg : Str → Option Value} {base : Heap}
/-- midway: the names at Nl, the pairs at D -/
structure Mid (H0 : Hp) (a c Nl D : Addr) (names : List Str) (near : Bool) (n0 : Nat) (H : Hp) (es : Ents) (k : Nat) : Prop where
  so : SameO a H0 H
  bag : BagAt H a c (n0 + k)
  nl : H Nl = some (.lst (names.map V.str))
  dt : H D = some (.dT (ents es))
  ok : EntOk names near es
  frD : H0 D = none
  ne : Nl ≠ D
  da : D ≠ a
  dc : D ≠ c
  na : Nl ≠ a
theorem Mid.draw {H0 H H' : Hp} {a c Nl D : Addr} {names : List Str} {near : Bool} {n0 k : Nat} {es : Ents} (m : Mid H0 a c Nl D names near n0 H es k) (so : SameO a H H') {j : Nat} (B : BagAt H' a c j) (e : j = n0 + k + 1) : Mid H0 a c Nl D names near n0 H' es (k + 1) :=
  ⟨m.so.trans so, by rw [e] at B; exact B, so _ _ m.na m.nl, so _ _ m.da m.dt, m.ok, m.frD, m.ne, m.da, m.dc, m.na⟩
theorem Mid.new {H0 H : Hp} {a c Nl D p : Addr} {names : List Str} {near : Bool} {n0 k : Nat} {es : Ents} {o : HO} (m : Mid H0 a c Nl D names near n0 H es k) (np : H p = none) : Mid H0 a c Nl D names near n0 (upd H p o) es k :=
  ⟨sameO_new m.so (m.so.free m.bag np), m.bag.new np, same_new np _ _ m.nl, same_new np _ _ m.dt, m.ok, m.frD, m.ne, m.da, m.dc, m.na⟩
theorem put_pair {H0 H2 : Hp} {a c Nl D : Addr} {names : List Str} {near : Bool} {n0 k : Nat} {es : Ents} (mid : Mid H0 a c Nl D names near n0 H2 es k) (pw : names.Pairwise fun x y => ltS x y = true) (hb : n0 + k + 10 < 10000000) (hl : es.length ≤ 1000)
    {Dx : Ends} {σ : Slots} {i1 i2 j1 j2 : Nat} (s0 : σ[0]? = some (some (.ref a))) (s2 : σ[2]? = some (some (.bl near))) (s3 : σ[3]? = some (some (.ref Nl))) (s5 : σ[5]? = some (some (.ref D))) (e1 : σ[i1]? = some (some (.int (j1 : Int)))) (e2 : σ[i2]? = some (some (.int (j2 : Int))))
    (lt : j1 < j2) (lt2 : j2 < names.length) (q : ∀ es' H', Mid H0 a c Nl D names near n0 H' es' (k + 4) → es'.length ≤ es.length + 1 → Dx.nx σ H') :
    sDPut (tVar 5) (tTup (tCons (tOp (rIxL K) (tVar 3) (tVar i1)) (tCons (tOp (rIxL K) (tVar 3) (tVar i2)) tNil))) (tCall spBeats [] E0 (tCons (tVar 0) (tCons (tVar 2) tNil))) Dx σ H2 := by
  refine ⟨_, s0, _, s2, a, c, n0 + k, near, rfl, mid.bag, hb, fun r H3 r1 r2 r3 so B3 => ?_⟩
  have nl3 := so _ _ mid.na mid.nl
  have dt3 := so _ _ mid.da mid.dt
  have g1 : (names.map V.str)[j1]? = some (.str names[j1]) := by
    rw [List.getElem?_map, List.getElem?_eq_getElem (by omega)]
    rfl
  have g2 : (names.map V.str)[j2]? = some (.str names[j2]) := by
    rw [List.getElem?_map, List.getElem?_eq_getElem lt2]
    rfl
  refine ⟨_, s5, _, s3, _, e1, Nl, _, _, _, rfl, rfl, SqL.of nl3, atI_nat g1, _, s3, _, e2, Nl, _, _, _, rfl, rfl, SqL.of nl3, atI_nat g2, by show 2 ≤ sizeLine; decide, fun t nt => ?_⟩
  have s4 : Same H3 (upd H3 t (.tup [.str names[j1], .str names[j2]])) := same_new nt
  refine ⟨D, _, rfl, DPut.t (k := pK (names[j1], names[j2])) (s4 _ _ dt3) upd_same (by unfold ents; rw [List.length_map]; exact Nat.lt_of_le_of_lt hl (by decide)), ?_⟩
  have so3 := mid.so.trans so
  rw [putE_ents]
  have ntD : Nl ≠ t := by
    rintro rfl
    rw [nt] at nl3
    cases nl3
  refine q (putE es (names[j1], names[j2]) r) _ ⟨?_, ?_, ?_, upd_same, ?_, mid.frD, mid.ne, mid.da, mid.dc, mid.na⟩ (putE_len _ _ _)
  · exact sameO_new (sameO_new so3 (so3.free B3 nt)) mid.frD
  · exact (B3.new nt).up mid.da mid.dc
  · rw [upd_ne mid.ne, upd_ne ntD]
    exact nl3
  · exact mid.ok.put (List.getElem_mem _) (List.getElem_mem _) (List.pairwise_iff_getElem.mp pw j1 j2 (by omega) lt2 lt) r1 r2 r3
abbrev nWeb : List Str := ["bag", "folk", "near", "names", "kind", "pairs", "at", "ahead", "time", "to", "pair"]
theorem scWeb : FnScope nWeb ["bag", "folk", "near"] (defScope sWeb) := ⟨rfl, rfl, rfl, by decide +kernel, rfl, by decide +kernel, by decide +kernel⟩
def spWeb : Sp := fun vs H Q _ => ∃ (a c : Addr) (n m : Nat) (near : Bool), vs = [.ref a, .int m, .bl near] ∧ BagAt H a c n ∧ n + 1000 < 10000000 ∧ 1 ≤ m ∧ m ≤ 12 ∧ ∀ (T : Addr) (names : List Str) (ways : List Way) (H' : Hp), H T = none → SameO a H H' → WebAt H' T names ways → WebOk names ways → PairsNd ways → names.length ≤ m → ways.length ≤ 101 → (near = true → ∀ y ∈ ways, y.2.2 ≤ 9) → BagAt H' a c (n + 1000) → Q (.ref T) H'
theorem ok_web {f f1 f2 f3 : Addr} {fd fd1 fd2 fd3 : FuncData} (F : Fun K "_law_web" "_law_web" sWeb f fd) (mL : mg "len" = none) (mR : mg "range" = none) (mS : mg "sorted" = none) (mM : mg "min" = none)
    (D1 : Def K mg "_law_draw" f1 fd1 ["bag", "many"]) (G1 : FnOk P w K mg base CX0 2 f1 fd1 ["bag", "many"] spDraw) (D2 : Def K mg "_law_names" f2 fd2 ["bag", "many"]) (G2 : FnOk P w K mg base CX0 4 f2 fd2 ["bag", "many"] spNames)
    (D3 : Def K mg "_law_beats" f3 fd3 ["bag", "near"]) (G3 : FnOk P w K mg base CX0 3 f3 fd3 ["bag", "near"] spBeats) : FnOk P w K mg base CX0 5 f fd ["bag", "folk", "near"] spWeb := by
  refine F.ok scWeb (fun vs H Q E h => ?_) (fun cdv A outer s H vs Q E hr h => ?_)
  · obtain ⟨a, c, n, m, near, rfl, _⟩ := h
    rfl
  · obtain ⟨a, c, n, m, near, rfl, hB, nn, m1, m12, q⟩ := h
    have hr2 := hr.mono (show 2 ≤ 4 by decide)
    have hr3 := hr.mono (show 3 ≤ 4 by decide)
    refine ⟨_, pss_cons (ps_set (i := 3) scWeb.nd rfl (Or.inl rfl) (pe_call G2 hr (by rfl) D2.at_ D2.kp D2.b .nil pass0 (pa_cons (pv 0) (pa_cons (pe_op op_add pe_int (pe_call G1 hr2 (by rfl) D1.at_ D1.kp D1.b .nil pass0 (pa_cons (pv 0) (pa_cons (pv 1) pa_nil)))) pa_nil))))
      (pss_cons (ps_set (i := 4) scWeb.nd rfl (Or.inl rfl) (pe_call G1 hr2 (by rfl) D1.at_ D1.kp D1.b .nil pass0 (pa_cons (pv 0) (pa_cons pe_int pa_nil))))
      (pss_cons (ps_set (i := 5) scWeb.nd rfl (Or.inr rfl) pe_dnewT)
      (pss_cons (ps_for PassesOwn.never rfl (pi_range2 (by rfl) mR (pa_cons pe_int (pa_cons (pe_callB cr_lenS (by rfl) mL (by decide +kernel) (pa_cons (pv 3) pa_nil)) pa_nil))) (pg_name (i := 6) scWeb.nd rfl (Or.inl rfl))
        (pss_one (ps_if (PW.pt (pw_or (pt_cmpR op_lt (pv 4) pe_int (nomark _)) (pw_or1 (pt_cmpR op_gt (pe_call G1 hr2 (by rfl) D1.at_ D1.kp D1.b .nil pass0 (pa_cons (pv 0) (pa_cons pe_int pa_nil))) pe_int (nomark _)))))
          (pss_cons (ps_set (i := 7) scWeb.nd rfl (Or.inl rfl) (pe_ifExp (pt_cmpR op_eq (pv 4) pe_int (nomark _)) (pe_op op_sub (pv 6) pe_int) (pe_call G1 hr2 (by rfl) D1.at_ D1.kp D1.b .nil pass0 (pa_cons (pv 0) (pa_cons (pv 6) pa_nil)))))
          (pss_one (ps_dput (u1 hr.units) (pv 5) (pe_tup (pa_cons (pe_ix ix_list (pv 3) (pv 7) (fun _ _ => rfl)) (pa_cons (pe_ix ix_list (pv 3) (pv 6) (fun _ _ => rfl)) pa_nil))) (pe_call G3 hr3 (by rfl) D3.at_ D3.kp D3.b .nil pass0 (pa_cons (pv 0) (pa_cons (pv 2) pa_nil))) (by rfl)))) pss_nil)))
      (pss_cons (ps_for PassesOwn.never rfl (pi_range1 (by rfl) mR (pa_cons (pe_call G1 hr2 (by rfl) D1.at_ D1.kp D1.b .nil pass0 (pa_cons (pv 0) (pa_cons (pe_callB (call_min2 rfl) (by rfl) mM (by decide +kernel) (pa_cons pe_int (pa_cons
            (pe_ix ix_list (pe_lst (pa_cons pe_int (pa_cons pe_int (pa_cons (pe_op op_mul pe_int (pe_callB cr_lenS (by rfl) mL (by decide +kernel) (pa_cons (pv 3) pa_nil))) pa_nil)))) (pe_call G1 hr2 (by rfl) D1.at_ D1.kp D1.b .nil pass0 (pa_cons (pv 0) (pa_cons pe_int pa_nil))) (fun _ _ => rfl)) pa_nil))) pa_nil))) pa_nil)) (pg_name (i := 8) scWeb.nd rfl (Or.inl rfl))
        (pss_cons (ps_par rfl scWeb.nd (i := 6) (j := 9) rfl rfl (by decide) rfl rfl (pa_cons (pe_call G1 hr2 (by rfl) D1.at_ D1.kp D1.b .nil pass0 (pa_cons (pv 0) (pa_cons (pe_callB cr_lenS (by rfl) mL (by decide +kernel) (pa_cons (pv 3) pa_nil)) pa_nil)))
            (pa_cons (pe_call G1 hr2 (by rfl) D1.at_ D1.kp D1.b .nil pass0 (pa_cons (pv 0) (pa_cons (pe_callB cr_lenS (by rfl) mL (by decide +kernel) (pa_cons (pv 3) pa_nil)) pa_nil))) pa_nil)) (by rfl))
          (pss_one (ps_if (pt_cmpR op_lt (pv 6) (pv 9) (nomark _))
            (pss_one (ps_dput (u1 hr.units) (pv 5) (pe_tup (pa_cons (pe_ix ix_list (pv 3) (pv 6) (fun _ _ => rfl)) (pa_cons (pe_ix ix_list (pv 3) (pv 9) (fun _ _ => rfl)) pa_nil))) (pe_call G3 hr3 (by rfl) D3.at_ D3.kp D3.b .nil pass0 (pa_cons (pv 0) (pa_cons (pv 2) pa_nil))) (by rfl))) pss_nil))))
      (pss_one (ps_ret (pe_tup (pa_cons (pv 3) (pa_cons (pe_lc (own := [("pair", 10)]) (g := gName 10) (tt := tYes)
          (te := tOp (rCatT K) (tVar 10) (tTup (tCons (tDGet (tVar 5) (tVar 10)) tNil))) rfl scWeb.nd
          (pi_list (pe_callB (cr_sortedDT rfl hr.units) (by rfl) mS (by decide +kernel) (pa_cons (pv 5) pa_nil))) (blkOk_by (N := nWeb) (sc := defScope sWeb) (by decide +kernel))
          (fun _ _ _ _ _ => pg_name (i := 10) scWeb.nd rfl (Or.inl rfl)) (fun _ _ _ _ _ => pts_nil)
          (fun _ _ _ _ _ => pe_op op_catT (pv 10) (pe_tup (pa_cons (pe_dget (u1 hr.units) (pv 5) (pv 10) (fun _ _ => rfl)) pa_nil)))) pa_nil))))))))), ?_⟩
    -- names, kind, the dict
    refine ⟨_, rfl, _, rfl, _, rfl, a, c, m, n, rfl, hB, by omega, by omega, by omega, fun r H1 r0 r1 so1 B1 => ⟨_, _, rfl, rfl, ?_⟩⟩
    obtain ⟨r', rfl⟩ := Int.eq_ofNat_of_zero_le r0
    refine ⟨a, c, n + 1, r' + 1, ?_, B1, by omega, by omega, fun Nl names H2 nNl so2 hNl NO B2 => ?_⟩
    · show [V.ref a, V.int (1 + (r' : Int))] = [V.ref a, V.int ((r' + 1 : Nat) : Int)]
      rw [show (1 : Int) + (r' : Int) = ((r' + 1 : Nat) : Int) by omega]
    have lenm : names.length ≤ m := Nat.le_trans NO.most (by omega)
    have nNa := B1.neA nNl
    refine ⟨_, rfl, a, c, 4, n + 1 + 100, rfl, B2, by omega, by decide, by decide, fun kind H3 k0 k1 so3 B3 => ?_⟩
    intro D nD
    have so123 : SameO a H H3 := (so1.trans so2).trans so3
    have hNl3 := so3 _ _ nNa hNl
    have nND : Nl ≠ D := by
      rintro rfl
      rw [nD] at hNl3
      cases hNl3
    have mid0 : Mid H a c Nl D names near (n + 102) (upd H3 D (.dT [])) [] 0 :=
      ⟨sameO_new so123 (so123.free B3 nD), B3.new nD, by rw [upd_ne nND]; exact hNl3, upd_same, ⟨(fun e he => nomatch he), List.nodup_nil⟩, so123.free B3 nD, nND, B3.neA nD, B3.neC nD, nNa⟩
    have lnm : (names.map V.str).length = names.length := List.length_map ..
    refine ⟨_, rfl, Nl, _, rfl, .inl (SqL.of mid0.nl), 1, (names.map V.str).length, rfl, ⟨by decide, by decide, by omega, by omega⟩, ?_⟩
    -- the first loop
    refine for_it (walk_range (lo := 1) (n := (((names.map V.str).length : Int) - 1).toNat)) (fun i σ H2 => ∃ (u6 u7 : Option V) (es : Ents) (k : Nat), σ = [some (.ref a), some (.int m), some (.bl near), some (.ref Nl), some (.int kind), some (.ref D), u6, u7, none, none, none] ∧ Mid H a c Nl D names near (n + 102) H2 es k ∧ k ≤ 6 * i ∧ es.length ≤ i)
      ⟨none, none, [], 0, rfl, mid0, by omega, by simp⟩ (fun _ _ _ _ _ => True.intro) ?_ ?_
    · rintro i x σ H4 H5 hi ⟨u6, u7, es, k, rfl, mid, hk, hl⟩ ⟨rfl, rfl⟩
      rw [lnm] at hi
      have li : i + 1 < names.length := by omega
      have i12 : i ≤ 12 := by omega
      have body : ∀ (k : Nat) (H6 : Hp), Mid H a c Nl D names near (n + 102) H6 es k → k ≤ 6 * i + 1 → ∀ Dx : Ends, (∀ σ' H', (∃ (u6 u7 : Option V) (es : Ents) (k : Nat), σ' = [some (.ref a), some (.int m), some (.bl near), some (.ref Nl), some (.int kind), some (.ref D), u6, u7, none, none, none] ∧ Mid H a c Nl D names near (n + 102) H' es k ∧ k ≤ 6 * (i + 1) ∧ es.length ≤ i + 1) → Dx.nx σ' H') →
          tSeq (tAsg (tIf (tTest (tOp rEq (tVar 4) (tC (.int 0)))) (tOp (rI0 fun i j => .int (i - j)) (tVar 6) (tC (.int 1))) (tCall spDraw [] E0 (tCons (tVar 0) (tCons (tVar 6) tNil)))) (gName 7))
            (sDPut (tVar 5) (tTup (tCons (tOp (rIxL K) (tVar 3) (tVar 7)) (tCons (tOp (rIxL K) (tVar 3) (tVar 6)) tNil))) (tCall spBeats [] E0 (tCons (tVar 0) (tCons (tVar 2) tNil)))) Dx [some (.ref a), some (.int m), some (.bl near), some (.ref Nl), some (.int kind), some (.ref D), some (.int (1 + (i : Nat))), u7, none, none, none] H6 := by
        intro k H6 mid hk Dx qx
        have e1 : (1 : Int) + (i : Nat) = ((i + 1 : Nat) : Int) := by omega
        rw [e1]
        have put : ∀ (j1 : Nat) (k : Nat) (H6 : Hp), j1 < i + 1 → Mid H a c Nl D names near (n + 102) H6 es k → k ≤ 6 * i + 2 → sDPut (tVar 5) (tTup (tCons (tOp (rIxL K) (tVar 3) (tVar 7)) (tCons (tOp (rIxL K) (tVar 3) (tVar 6)) tNil))) (tCall spBeats [] E0 (tCons (tVar 0) (tCons (tVar 2) tNil))) Dx [some (.ref a), some (.int m), some (.bl near), some (.ref Nl), some (.int kind), some (.ref D), some (.int ((i + 1 : Nat) : Int)), some (.int (j1 : Int)), none, none, none] H6 := by
          intro j1 k H6 lj mid hk
          refine put_pair mid NO.pw (by omega) (by omega) rfl rfl rfl rfl (i1 := 7) (i2 := 6) (j1 := j1) (j2 := i + 1) rfl rfl lj li fun es' H' mid' le => qx _ _ ⟨_, _, es', k + 4, rfl, mid', by omega, by omega⟩
        refine ⟨_, rfl, rfl, _, rfl, ?_⟩
        rw [dec_int]
        by_cases ek : kind = 0
        · rw [decide_eq_true ek]
          refine iteT ⟨_, rfl, _, _, rfl, rfl, ?_⟩
          have e2 : ((i + 1 : Nat) : Int) - 1 = (i : Int) := by omega
          have p := put i k H6 (by omega) mid (by omega)
          rw [← e2] at p
          exact p
        · rw [decide_eq_false ek]
          refine iteF ⟨_, rfl, _, rfl, a, c, _, _, rfl, mid.bag, by omega, by omega, by omega, fun r H7 r0 r1 so B => ?_⟩
          obtain ⟨j1, rfl⟩ := Int.eq_ofNat_of_zero_le r0
          exact put j1 (k + 1) H7 (by omega) (mid.draw so B rfl) (by omega)
      by_cases kd : kind < 2
      · refine ⟨_, rfl, _, _, rfl, rfl, _, rfl, ?_⟩
        rw [decide_eq_true kd]
        refine iteT (iteT (body k H5 mid (by omega) _ ?_))
        exact fun σ' H' x => x
      · refine ⟨_, rfl, _, _, rfl, rfl, _, rfl, ?_⟩
        rw [decide_eq_false kd]
        refine iteF ⟨_, rfl, a, c, 3, _, rfl, mid.bag, by omega, by decide, by decide, fun r H6 r0 r1 so B => ⟨_, _, rfl, rfl, _, rfl, ?_⟩⟩
        by_cases rp : 0 < r
        · rw [decide_eq_true rp]
          refine iteT (body (k + 1) H6 (mid.draw so B rfl) (by omega) _ ?_)
          exact fun σ' H' x => x
        · rw [decide_eq_false rp]
          exact iteF ⟨_, u7, es, k + 1, rfl, mid.draw so B rfl, by omega, by omega⟩
    · rintro σ H4 ⟨u6, u7, es, k, rfl, mid, hk, hl⟩
      rw [lnm] at hk hl
      have len12 : names.length ≤ 12 := by omega
      have len1 := NO.one
      -- the second loop
      refine ⟨_, rfl, _, rfl, Nl, _, rfl, .inl (SqL.of mid.nl), _, _, rfl, rfl, .inr ⟨by omega, by omega⟩, by show 3 ≤ sizeLine; decide, fun l nl => ?_⟩
      have mid5 := mid.new (o := .lst [.int 1, .int 3, .int (2 * ((names.map V.str).length : Int))]) nl
      have nla := mid.bag.neA nl
      refine ⟨_, rfl, a, c, 3, _, rfl, mid5.bag, by omega, by decide, by decide, fun r H5 r0 r1 so5 B5 => ?_⟩
      have mid6 := mid5.draw so5 B5 rfl
      have hl5 := so5 l _ nla upd_same
      obtain ⟨r, rfl⟩ := Int.eq_ofNat_of_zero_le r0
      obtain ⟨X, eX, x1, x2⟩ : ∃ X : Int, [V.int 1, V.int 3, V.int (2 * ((names.map V.str).length : Int))][r]? = some (V.int X) ∧ 1 ≤ X ∧ X ≤ 24 := by
        have c3 : r = 0 ∨ r = 1 ∨ r = 2 := by omega
        rcases c3 with rfl | rfl | rfl
        · exact ⟨_, rfl, by decide, by decide⟩
        · exact ⟨_, rfl, by decide, by decide⟩
        · exact ⟨_, rfl, by omega, by omega⟩
      refine ⟨l, _, _, _, rfl, rfl, SqL.of hl5, atI_nat eX, _, _, rfl, a, c, X, _, by rw [if_pos (by omega)]; rfl, mid6.bag, by omega, x1, by omega, fun t H6 t0 t1 so6 B6 => ?_⟩
      have mid7 := mid6.draw so6 B6 rfl
      refine ⟨t, rfl, by omega, by omega, ?_⟩
      refine for_it (walk_range (lo := 0) (n := t.toNat)) (fun i σ H2 => ∃ (u6 u7 u8 u9 : Option V) (es : Ents) (k : Nat), σ = [some (.ref a), some (.int m), some (.bl near), some (.ref Nl), some (.int kind), some (.ref D), u6, u7, u8, u9, none] ∧ Mid H a c Nl D names near (n + 102) H2 es k ∧ k ≤ 70 + 6 * i ∧ es.length ≤ 12 + i)
        ⟨u6, u7, none, none, es, _, rfl, mid7, by omega, by omega⟩ (fun _ _ _ _ _ => True.intro) ?_ ?_
      · rintro i x σ H7 H8 hi ⟨u6, u7, u8, u9, es, k, rfl, mid, hk, hl⟩ ⟨rfl, rfl⟩
        have i24 : i < 24 := by omega
        refine ⟨_, rfl, _, rfl, Nl, _, rfl, .inl (SqL.of mid.nl), a, c, _, _, rfl, mid.bag, by omega, by omega, by omega, fun v1 H9 v0 v1' so9 B9 => ?_⟩
        have mid9 := mid.draw so9 B9 rfl
        refine ⟨_, rfl, _, rfl, Nl, _, rfl, .inl (SqL.of mid9.nl), a, c, _, _, rfl, mid9.bag, by omega, by omega, by omega, fun w1 H10 w0 w1' so10 B10 => ?_⟩
        have mid10 := mid9.draw so10 B10 rfl
        refine ⟨_, _, rfl, _, rfl, _, rfl, _, _, rfl, rfl, _, rfl, ?_⟩
        by_cases lt : v1 < w1
        · rw [decide_eq_true lt]
          obtain ⟨j1, rfl⟩ := Int.eq_ofNat_of_zero_le v0
          obtain ⟨j2, rfl⟩ := Int.eq_ofNat_of_zero_le w0
          exact iteT (put_pair mid10 NO.pw (by omega) (by omega) rfl rfl rfl rfl (i1 := 6) (i2 := 9) (j1 := j1) (j2 := j2) rfl rfl (by omega) (by omega) fun es' H' mid' le => ⟨_, _, _, _, es', _, rfl, mid', by omega, by omega⟩)
        · rw [decide_eq_false lt]
          exact iteF ⟨_, _, _, _, es, _, rfl, mid10, by omega, by omega⟩
      · rintro σ H7 ⟨u6, u7, u8, u9, es, k, rfl, mid, hk, hl⟩
        have t24 : t.toNat ≤ 24 := by omega
        obtain ⟨wok, wnear⟩ := waysE_ok (m := m) ⟨NO.ok, NO.one, lenm, NO.up, NO.nd, NO.pw⟩ (by omega) mid.ok (by omega)
        have wl : (waysE es).length ≤ 101 := by
          unfold waysE
          rw [List.length_map, (sortB_perm _ _).length_eq, List.length_map]
          omega
        have wlen : (sortB pD (es.map Prod.fst)).length = (waysE es).length := by
          unfold waysE
          rw [List.length_map]
        refine ⟨_, rfl, _, rfl, D, _, es.map Prod.fst, rfl, mid.dt, by unfold ents; rw [List.map_map, List.map_map]; rfl, fun S us nS im => ?_⟩
        have mid8 := mid.new (o := .lst us) nS
        have lu := im.length
        rw [List.length_map, wlen] at lu
        have tsS : TS H7 (upd H7 S (.lst us)) := TS.new nS
        refine ⟨S, rfl, ⟨us, SqL.of upd_same⟩, fun W nW => ?_⟩
        refine lc_gen (walk_list (K := K) (a := S) (xs := us)) TS (fun _ H' => Same (upd H7 S (.lst us)) H') (fun i y H' => ∀ p, (sortB pD (es.map Prod.fst))[i]? = some p → Im H' y (wayD3 (p.1, p.2, lookE es p))) (by rw [lu]; exact Nat.le_trans wl (by decide))
          (fun H' acc acc' h => TS.lst h) (fun i H' acc acc' _ gd => same_at gd nW) (fun j y H' H'' t h p e => (h p e).on t) (same_new nW) (fun i H' gd => gd.seq (SqL.of upd_same)) (fun i y H8 H9 acc Z hi2 s8 hacc hy k => ?_) (fun H8 ys s8 h8 hlen hR => ?_)
        · obtain ⟨rfl, ex⟩ := hy
          obtain ⟨p, ep⟩ : ∃ p, (sortB pD (es.map Prod.fst))[i]? = some p := ⟨_, List.getElem?_eq_getElem (by omega)⟩
          obtain ⟨d, ed, imd⟩ := Ims.at im ex
          rw [List.getElem?_map, ep] at ed
          cases ed
          have imd9 := (imd.on tsS).on (TS.same s8)
          obtain ⟨b, xs, rfl, hb, hxs⟩ : ∃ b xs, y = .ref b ∧ H9 b = some (.tup xs) ∧ Ims H9 xs [.str p.1, .str p.2] := by
            cases imd9 with
            | tup h s => exact ⟨_, _, rfl, h, s⟩
          obtain rfl : xs = [.str p.1, .str p.2] := by
            cases hxs with
            | cons h1 t1 =>
              cases t1 with
              | cons h2 t2 =>
                cases t2
                cases h1
                cases h2
                rfl
          have pm : p ∈ es.map Prod.fst := (sortB_perm _ _).mem_iff.mp (List.mem_of_getElem? ep)
          have hD9 := s8 _ _ mid8.dt
          have gv : DGet H9 D (.ref b) (some (.int (lookE es p))) := by
            have := DGet.t (k := pK p) hD9 hb
            rw [(lookE_val pm).1] at this
            exact this
          refine ⟨rfl, ⟨_, rfl, _, rfl, _, rfl, D, _, rfl, gv, by show 1 ≤ sizeLine; decide, fun u nu => ?_⟩⟩
          have su : Same H9 (upd H9 u (.tup [.int (lookE es p)])) := same_new nu
          refine ⟨b, u, _, _, rfl, rfl, SqT.of (su _ _ hb), SqT.of upd_same, by simp, by show 3 ≤ sizeLine; decide, fun e => (nomatch e), fun _ v nv => ?_⟩
          have sv : Same (upd H9 u (.tup [.int (lookE es p)])) (upd (upd H9 u (.tup [.int (lookE es p)])) v (.tup [.str p.1, .str p.2, .int (lookE es p)])) := same_new nv
          refine k _ _ (sv _ _ (su _ _ hacc)) (TS.same (su.trans sv)) ((s8.trans su).trans sv) fun p' e' => ?_
          rw [ep] at e'
          cases e'
          exact way_im upd_same
        · have s9 := s8
          refine ⟨by show 2 ≤ sizeLine; decide, fun T nT => ?_⟩
          have mid10 : Mid H a c Nl D names near (n + 102) H8 es k := ⟨mid8.so.trans (SameO.of s8), mid8.bag.on s8, s8 _ _ mid8.nl, s8 _ _ mid8.dt, mid8.ok, mid8.frD, mid8.ne, mid8.da, mid8.dc, mid8.na⟩
          have sT : Same H8 (upd H8 T (.tup [.ref Nl, .ref W])) := same_new nT
          have ims : Ims H8 ys ((waysE es).map wayD3) := by
            refine Ims.of (by rw [hlen, List.length_map, lu]) fun i v d h1 h2 => ?_
            unfold waysE at h2
            rw [List.map_map, List.getElem?_map] at h2
            cases e : (sortB pD (es.map Prod.fst))[i]? with
            | none =>
              rw [e] at h2
              cases h2
            | some p =>
              rw [e] at h2
              cases h2
              exact hR i v h1 p e
          refine q T names (waysE es) _ (mid10.so.free mid10.bag nT) (mid10.new nT).so ⟨Nl, W, ys, upd_same, sT _ _ mid10.nl, sT _ _ h8, ims.on (TS.same sT)⟩ wok (waysE_nd mid.ok) lenm wl (fun hn y hy => wnear y hy hn) ((mid10.new nT).bag.more (by omega))
end
end Cry
namespace Cry
open PySem PySem.Spec PyProof.Rows L2
/-! The law's web handed in one of five forms. -/
section
variable {P : Program} {w : World} {K : PySem.W.Frag} {mg : Str → Option Value} {base : Heap}
theorem SameO.row {H H' : Hp} {a p : Addr} {xs : List V} (s : SameO a H H') (n : p ≠ a) (h : RowAt H p xs) : RowAt H' p xs := h.imp (s _ _ n) (s _ _ n)
theorem Same.row {H H' : Hp} {p : Addr} {xs : List V} (s : Same H H') (h : RowAt H p xs) : RowAt H' p xs := h.imp (s _ _) (s _ _)
/-- the parts of the web stand apart from the bag -/
theorem WebAt.apart {H : Hp} {a c T : Addr} {n : Nat} {names : List Str} {ways : List Way} (hB : BagAt H a c n) (hw : WebAt H T names ways) : ∃ F W ws, H T = some (.tup [.ref F, .ref W]) ∧ H F = some (.lst (names.map V.str)) ∧ H W = some (.lst ws) ∧ ItemsAt H ws ways ∧ (∀ v ∈ ws, ∃ b, v = V.ref b ∧ b ≠ a) ∧ T ≠ a ∧ F ≠ a ∧ W ≠ a := by
  obtain ⟨F, W, ws, h1, h2, h3, h4⟩ := hw
  obtain ⟨ns, i, big, cnt, total, ha, _⟩ := hB
  have item : ∀ (i : Nat) (v : V), ws[i]? = some v → ∃ b y, v = .ref b ∧ ways[i]? = some y ∧ H b = some (.tup (y3 y)) := fun i v e => by
    obtain ⟨d, ed, im⟩ := Ims.at h4 e
    rw [List.getElem?_map] at ed
    cases ey : ways[i]? with
    | none =>
      rw [ey] at ed
      cases ed
    | some y =>
      rw [ey] at ed
      cases ed
      obtain ⟨b, rfl, hb⟩ := im_way im
      exact ⟨b, y, rfl, rfl, hb⟩
  refine ⟨F, W, ws, h1, h2, h3, ⟨by rw [h4.length, List.length_map], fun i v y e1 e2 => ?_⟩, fun v hv => ?_, ?_, ?_, ?_⟩
  · obtain ⟨b, y', rfl, e3, hb⟩ := item i v e1
    rw [e2] at e3
    cases e3
    exact ⟨b, rfl, .inr hb⟩
  · obtain ⟨i, e⟩ := List.getElem?_of_mem hv
    obtain ⟨b, y', rfl, e3, hb⟩ := item i v e
    refine ⟨b, rfl, ?_⟩
    rintro rfl
    rw [ha] at hb
    cases hb
  · rintro rfl
    rw [ha] at h1
    cases h1
  · rintro rfl
    rw [ha] at h2
    cases names with
    | nil => cases h2
    | cons x xs => cases h2
  · rintro rfl
    rw [ha] at h3
    cases h3
    obtain ⟨b, y, e, _⟩ := item 1 _ rfl
    cases e
abbrev nDressed : List Str := ["bag", "web", "folk", "ways", "some", "way"]
theorem scDressed : FnScope nDressed ["bag", "web"] (defScope sDressed) := ⟨rfl, rfl, rfl, by decide +kernel, rfl, by decide +kernel, by decide +kernel⟩
abbrev rListS (K : PySem.W.Frag) : List V → Hp → VK → Prop := fun xs H Q => ∃ p ys, xs = [V.ref p] ∧ (SqL K H p ys ∨ SqT K H p ys) ∧ ∀ (l : Addr), H l = none → Q (.ref l) (upd H l (.lst ys))
theorem cr_listS {X : Cx} : CallR X (.type "list") (rListS X.K) := call_list_of
def spDressed : Sp := fun vs H Q _ => ∃ (a c T : Addr) (n : Nat) (names : List Str) (ways : List Way), vs = [.ref a, .ref T] ∧ BagAt H a c n ∧ n + 500 < 10000000 ∧ WebAt H T names ways ∧ WebOk names ways ∧ ways.length ≤ 101 ∧
  ∀ (v : V) (d : PyData) (H' : Hp), SameO a H H' → Da H' v d → WebForm names ways d → Sm 50000 3 d → BagAt H' a c (n + 500) → Q v H'
theorem ok_dressed {f f1 : Addr} {fd fd1 : FuncData} (F : Fun K "_law_dressed" "_law_dressed" sDressed f fd) (mL : mg "list" = none) (mT : mg "tuple" = none) (D1 : Def K mg "_law_draw" f1 fd1 ["bag", "many"]) (G1 : FnOk P w K mg base CX0 2 f1 fd1 ["bag", "many"] spDraw) : FnOk P w K mg base CX0 3 f fd ["bag", "web"] spDressed := by
  refine F.ok scDressed (fun vs H Q E h => ?_) (fun cdv A outer s H vs Q E hr h => ?_)
  · obtain ⟨a, c, T, n, names, ways, rfl, _⟩ := h
    rfl
  · obtain ⟨a, c, T, n, names, ways, rfl, hB, nn, hw, wok, wl, q⟩ := h
    obtain ⟨F, W, ws, hT, hF, hW, hi, wna, nT, nF, nW⟩ := hw.apart hB
    refine ⟨_, pss_cons (ps_asg (pv 1) (pg_row rfl (pgs_cons (pg_name (i := 2) scDressed.nd rfl (Or.inl rfl)) (pgs_cons (pg_name (i := 3) scDressed.nd rfl (Or.inl rfl)) pgs_nil))))
      (pss_cons (ps_setLc (i := 4) (own := [("way", 5)]) (g := gName 5) (tt := tYes)
          (te := tIf (tTest (tOp rEq (tCall spDraw [] (fun _ _ _ => False) (tCons (tVar 0) (tCons (tC (.int 2)) tNil))) (tC (.int 0)))) (tCB (rListS K) (tCons (tVar 5) tNil)) (tVar 5)) (by rfl) scDressed.nd rfl rfl (sw_true rfl rfl rfl (by decide +kernel))
          (pi_list (pv 3)) (blkOk_by (N := nDressed) (sc := defScope sDressed) (by decide +kernel))
          (fun _ _ _ _ _ => pg_name (i := 5) scDressed.nd rfl (Or.inl rfl)) (fun _ _ _ _ _ => pts_nil)
          (fun _ _ _ _ _ => pe_ifExp (pt_cmpR op_eq (pe_call G1 hr (by rfl) D1.at_ D1.kp D1.b .nil pass0 (pa_cons (pv 0) (pa_cons pe_int pa_nil))) pe_int (nomark _)) (pe_callTy cr_listS (by rfl) mL (by decide +kernel) (pa_cons (pv 5) pa_nil)) (pv 5)))
      (pss_one (ps_ret (pe_ix ix_list (pe_lst (pa_cons (pv 1) (pa_cons (pe_lst (pa_cons (pe_callTy cr_listS (by rfl) mL (by decide +kernel) (pa_cons (pv 2) pa_nil)) (pa_cons (pv 3) pa_nil)))
          (pa_cons (pe_tup (pa_cons (pe_callTy call_tuple_of (by rfl) mT (by decide +kernel) (pa_cons (pv 2) pa_nil)) (pa_cons (pe_callTy call_tuple_of (by rfl) mT (by decide +kernel) (pa_cons (pv 3) pa_nil)) pa_nil)))
          (pa_cons (pe_lst (pa_cons (pv 2) (pa_cons (pv 4) pa_nil))) (pa_cons (pe_tup (pa_cons (pv 2) (pa_cons (pe_callTy call_tuple_of (by rfl) mT (by decide +kernel) (pa_cons (pv 4) pa_nil)) pa_nil))) pa_nil))))))
          (pe_call G1 hr (by rfl) D1.at_ D1.kp D1.b .nil pass0 (pa_cons (pv 0) (pa_cons pe_int pa_nil))) (fun _ _ => rfl))))), ?_⟩
    refine ⟨_, rfl, T, _, rfl, .inr (SqT.of hT), rfl, _, _, rfl, _, _, rfl, rfl, ?_⟩
    have lw := hi.1
    refine ⟨_, rfl, W, rfl, ⟨ws, SqL.of hW⟩, fun D nD => ?_⟩
    have nDa := hB.neA nD
    have nDc := hB.neC nD
    have nDW : W ≠ D := by
      rintro rfl
      rw [nD] at hW
      cases hW
    refine lc_gen (walk_list (K := K) (a := W) (xs := ws)) (fun H1 H2 => ∀ b o, b ≠ a → b ≠ D → H1 b = some o → H2 b = some o) (fun i H' => BagAt H' a c (n + i) ∧ SameO a H H') (fun i v H' => ∀ y, ways[i]? = some y → ∃ b, v = .ref b ∧ b ≠ a ∧ b ≠ D ∧ RowAt H' b (y3 y)) (by rw [lw]; exact Nat.le_trans wl (by decide))
      (fun H' acc acc' h b o n1 n2 e => by rw [upd_ne n2]; exact e) (fun i H' acc acc' _ gd => ⟨gd.1.up nDa nDc, sameO_new gd.2 nD⟩) (fun j v H1 H2 t h y e => by
        obtain ⟨b, e1, e2, e3, e4⟩ := h y e
        exact ⟨b, e1, e2, e3, e4.imp (t _ _ e2 e3) (t _ _ e2 e3)⟩) ⟨hB.new nD, sameO_new (fun _ _ _ e => e) nD⟩ (fun i H' gd => SqL.of (gd.2 _ _ nW hW)) (fun i v H1 H2 acc Z hi2 gd hacc hy k => ?_) (fun H1 ys gd h1 hlen hR => ?_)
    · obtain ⟨rfl, ex⟩ := hy
      obtain ⟨y, ey⟩ : ∃ y, ways[i]? = some y := ⟨_, List.getElem?_eq_getElem (by omega)⟩
      obtain ⟨b0, rfl, hb0⟩ := hi.2 i v y ex ey
      obtain ⟨b1, e1, nb⟩ := wna _ (List.mem_of_getElem? ex)
      cases e1
      refine ⟨rfl, ⟨_, rfl, a, c, 2, n + i, rfl, gd.1, by omega, by decide, by decide, fun r H3 r0 r1 so B => ⟨rfl, _, rfl, ?_⟩⟩⟩
      have hb0' : RowAt H3 b0 (y3 y) := (gd.2.trans so).row nb hb0
      have nb0D : b0 ≠ D := by
        rintro rfl
        rcases hb0 with h | h <;> (rw [nD] at h; cases h)
      rw [dec_int]
      by_cases er : r = 0
      · rw [decide_eq_true er]
        refine iteT ⟨_, rfl, b0, y3 y, rfl, hb0'.imp SqL.of SqT.of, fun l nl => ?_⟩
        have nlD : l ≠ D := by
          rintro rfl
          have := so _ _ nDa hacc
          rw [nl] at this
          cases this
        refine k _ _ ?_ (fun b o n1 n2 e => same_new nl _ _ (so _ _ n1 e)) ⟨B.new nl, sameO_new (gd.2.trans so) ((gd.2.trans so).free B nl)⟩ fun y' e' => ?_
        · exact same_new nl _ _ (so _ _ nDa hacc)
        · rw [ey] at e'
          cases e'
          exact ⟨l, rfl, B.neA nl, nlD, .inl upd_same⟩
      · rw [decide_eq_false er]
        refine iteF ⟨_, rfl, ?_⟩
        refine k _ _ (so _ _ nDa hacc) (fun b o n1 n2 e => so _ _ n1 e) ⟨B, gd.2.trans so⟩ fun y' e' => ?_
        rw [ey] at e'
        cases e'
        exact ⟨b0, rfl, nb, nb0D, hb0'⟩
    · have B0 := gd.1
      have so0 := gd.2
      have hF1 := so0 _ _ nF hF
      have hW1 := so0 _ _ nW hW
      have hT1 := so0 _ _ nT hT
      have dl : ys.length = ways.length := by rw [hlen, lw]
      refine ⟨_, rfl, _, rfl, F, _, rfl, .inl (SqL.of hF1), fun L1 n1 => ⟨_, rfl, by show 2 ≤ sizeLine; decide, fun L2 n2 => ?_⟩⟩
      have s1 : Same H1 (upd H1 L1 (.lst (names.map V.str))) := same_new n1
      have s2 := same_new (o := .lst [.ref L1, .ref W]) n2
      have s02 := s1.trans s2
      have B2 := (B0.new (o := .lst (names.map V.str)) n1).new (o := .lst [.ref L1, .ref W]) n2
      refine ⟨_, rfl, F, _, rfl, .inl ⟨SqL.of (s02 _ _ hF1), fun T1 n3 => ?_⟩⟩
      have s3 := same_new (o := .tup (names.map V.str)) n3
      have B3 := B2.new (o := .tup (names.map V.str)) n3
      refine ⟨_, rfl, W, _, rfl, .inl ⟨SqL.of ((s02.trans s3) _ _ hW1), fun T2 n4 => ?_⟩⟩
      have s4 := same_new (o := .tup ws) n4
      have B4 := B3.new (o := .tup ws) n4
      refine ⟨by show 2 ≤ sizeLine; decide, fun T3 n5 => ?_⟩
      have s5 := same_new (o := .tup [.ref T1, .ref T2]) n5
      have B5 := B4.new (o := .tup [.ref T1, .ref T2]) n5
      refine ⟨_, rfl, _, rfl, by show 2 ≤ sizeLine; decide, fun L4 n6 => ?_⟩
      have s6 := same_new (o := .lst [.ref F, .ref D]) n6
      have B6 := B5.new (o := .lst [.ref F, .ref D]) n6
      have s06 := (((s02.trans s3).trans s4).trans s5).trans s6
      refine ⟨_, rfl, _, rfl, D, _, rfl, .inl ⟨SqL.of (s06 _ _ h1), fun T5 n7 => ?_⟩⟩
      have s7 := same_new (o := .tup ys) n7
      have B7 := B6.new (o := .tup ys) n7
      refine ⟨by show 2 ≤ sizeLine; decide, fun T6 n8 => ?_⟩
      have s8 := same_new (o := .tup [.ref F, .ref T5]) n8
      have B8 := B7.new (o := .tup [.ref F, .ref T5]) n8
      refine ⟨by show 5 ≤ sizeLine; decide, fun L n9 => ?_⟩
      have s9 := same_new (o := .lst [.ref T, .ref L2, .ref T3, .ref L4, .ref T6]) n9
      have B9 := B8.new (o := .lst [.ref T, .ref L2, .ref T3, .ref L4, .ref T6]) n9
      have s09 := ((s06.trans s7).trans s8).trans s9
      refine ⟨_, rfl, a, c, 5, _, rfl, B9, by omega, by decide, by decide, fun r H9 r0 r1 so B => ?_⟩
      have hL9 := so _ _ (B8.neA n9) upd_same
      have soH : SameO a H H9 := (so0.trans (SameO.of s09)).trans so
      have rF : RowAt H9 F (names.map V.str) := .inl (soH _ _ nF hF)
      have rD : RowAt H9 D ys := .inl (so _ _ nDa (s09 _ _ h1))
      have iD : ItemsAt H9 ys ways := ⟨dl, fun i v y e1 e2 => by
        obtain ⟨b, rfl, nb, _, hb⟩ := hR i v e1 y e2
        exact ⟨b, rfl, so.row nb (hb.imp (s09 _ _) (s09 _ _))⟩⟩
      have rW : RowAt H9 W ws := .inl (soH _ _ nW hW)
      have iW : ItemsAt H9 ws ways := ⟨lw, fun i v y e1 e2 => by
        obtain ⟨b, e, nb⟩ := wna v (List.mem_of_getElem? e1)
        obtain ⟨b', e', hb⟩ := hi.2 i v y e1 e2
        rw [e] at e'
        cases e'
        exact ⟨b, e, soH.row nb hb⟩⟩
      have fin : ∀ p F' W' ws', RowAt H9 p [.ref F', .ref W'] → RowAt H9 F' (names.map V.str) → RowAt H9 W' ws' → ItemsAt H9 ws' ways → Q (.ref p) H9 := fun p F' W' ws' k1 k2 k3 k4 => by
        obtain ⟨d, d1, d2, d3⟩ := web_da k1 k2 k3 k4 wok
        exact q _ d H9 soH d1 d2 d3 (B.more (by omega))
      have nL1 := B0.neA n1
      have nL2 := (B0.new (o := .lst (names.map V.str)) n1).neA n2
      have nT1 := B2.neA n3
      have nT2 := B3.neA n4
      have nT3 := B4.neA n5
      have nL4 := B5.neA n6
      have nT5 := B6.neA n7
      have nT6 := B7.neA n8
      have s89 := s8.trans s9
      have s79 := s7.trans s89
      have s69 := s6.trans s79
      have s59 := s5.trans s69
      have s49 := s4.trans s59
      have s39 := s3.trans s49
      have s29 := s2.trans s39
      obtain ⟨r, rfl⟩ := Int.eq_ofNat_of_zero_le r0
      have c5 : r = 0 ∨ r = 1 ∨ r = 2 ∨ r = 3 ∨ r = 4 := by omega
      rcases c5 with rfl | rfl | rfl | rfl | rfl
      · exact ⟨L, _, _, _, rfl, rfl, SqL.of hL9, atI_nat (j := 0) rfl, fin T F W ws (.inr (soH _ _ nT hT)) rF rW iW⟩
      · exact ⟨L, _, _, _, rfl, rfl, SqL.of hL9, atI_nat (j := 1) rfl, fin L2 L1 W ws (.inl (so _ _ nL2 (s39 _ _ upd_same))) (.inl (so _ _ nL1 (s29 _ _ upd_same))) rW iW⟩
      · exact ⟨L, _, _, _, rfl, rfl, SqL.of hL9, atI_nat (j := 2) rfl, fin T3 T1 T2 ws (.inr (so _ _ nT3 (s69 _ _ upd_same))) (.inr (so _ _ nT1 (s49 _ _ upd_same))) (.inr (so _ _ nT2 (s59 _ _ upd_same))) iW⟩
      · exact ⟨L, _, _, _, rfl, rfl, SqL.of hL9, atI_nat (j := 3) rfl, fin L4 F D ys (.inl (so _ _ nL4 (s79 _ _ upd_same))) rF rD iD⟩
      · exact ⟨L, _, _, _, rfl, rfl, SqL.of hL9, atI_nat (j := 4) rfl, fin T6 F T5 ys (.inr (so _ _ nT6 (s9 _ _ upd_same))) rF (.inr (so _ _ nT5 (s89 _ _ upd_same))) iD⟩
end
end Cry
namespace Cry
open PySem PySem.Spec PyProof.Rows L2
/-! A dict from places to lists of places: what it says, and what the ways make of it. -/
def k3 (p : Way) : List Key := [Sum.inr p.1, Sum.inr p.2.1, Sum.inl p.2.2]
theorem k3_inj {a b : Way} (h : k3 a = k3 b) : a = b := by
  unfold k3 at h
  injection h with h1 h2
  injection h2 with h2 h3
  injection h3 with h3 _
  exact Prod.ext (Sum.inr.inj h1) (Prod.ext (Sum.inr.inj h2) (Sum.inl.inj h3))
abbrev Tab := List (Way × Addr × List Way)
def tabK (t : Tab) : List (List Key × V) := t.map fun e => (k3 e.1, V.ref e.2.1)
def putT (t : Tab) (p : Way) (l : Addr) (ls : List Way) : Tab := if t.any (fun e => decide (e.1 = p)) = true then t.map (fun e => if e.1 = p then (e.1, l, ls) else e) else t ++ [(p, l, ls)]
theorem tab_any (t : Tab) (p : Way) : ((tabK t).any fun kv => decide (kv.1 = k3 p)) = t.any fun e => decide (e.1 = p) := by
  unfold tabK
  rw [List.any_map]
  congr 1
  funext e
  show decide (k3 e.1 = k3 p) = decide (e.1 = p)
  by_cases h : e.1 = p
  · rw [decide_eq_true h, decide_eq_true (congrArg k3 h)]
  · rw [decide_eq_false h, decide_eq_false fun z => h (k3_inj z)]
theorem putT_tab (t : Tab) (p : Way) (l : Addr) (ls : List Way) : putK (tabK t) (k3 p) (.ref l) = tabK (putT t p l ls) := by
  unfold putK putT
  rw [tab_any]
  by_cases h : (t.any fun e => decide (e.1 = p)) = true
  · rw [if_pos h, if_pos h]
    unfold tabK
    rw [List.map_map, List.map_map]
    refine List.map_congr_left fun e _ => ?_
    show (if k3 e.1 = k3 p then (k3 e.1, V.ref l) else (k3 e.1, V.ref e.2.1)) = ((fun e : Way × Addr × List Way => (k3 e.1, V.ref e.2.1)) (if e.1 = p then (e.1, l, ls) else e))
    by_cases h2 : e.1 = p
    · rw [if_pos (congrArg k3 h2), if_pos h2]
    · rw [if_neg fun z => h2 (k3_inj z), if_neg h2]
  · rw [if_neg h, if_neg h]
    unfold tabK
    rw [List.map_append]
    rfl
def lookT (t : Tab) (p : Way) : Option (Addr × List Way) := (t.find? fun e => decide (e.1 = p)).map Prod.snd
def listT (t : Tab) (p : Way) : List Way := ((lookT t p).map Prod.snd).getD []
theorem lookT_val (t : Tab) (p : Way) : valV (tabK t) (k3 p) = (lookT t p).map fun x => V.ref x.1 := by
  induction t with
  | nil => rfl
  | cons e t ih =>
    unfold valV tabK lookT at *
    rw [List.map_cons, List.find?_cons, List.find?_cons]
    by_cases h2 : e.1 = p
    · rw [show (decide (k3 e.1 = k3 p)) = true from decide_eq_true (congrArg k3 h2), decide_eq_true h2]
      rfl
    · rw [show (decide (k3 e.1 = k3 p)) = false from decide_eq_false fun z => h2 (k3_inj z), decide_eq_false h2]
      exact ih
theorem lookT_mem {t : Tab} {p : Way} {x : Addr × List Way} (h : lookT t p = some x) : (p, x) ∈ t := by
  unfold lookT at h
  rw [Option.map_eq_some_iff] at h
  obtain ⟨e, he, rfl⟩ := h
  have h1 := List.find?_some he
  have h2 := List.mem_of_find?_eq_some he
  have h3 : e.1 = p := of_decide_eq_true h1
  rw [← h3]
  exact h2
theorem lookT_none {t : Tab} {p : Way} (h : lookT t p = none) : ¬ (t.any (fun e => decide (e.1 = p)) = true) := by
  unfold lookT at h
  rw [Option.map_eq_none_iff, List.find?_eq_none] at h
  intro z
  obtain ⟨e, he, k⟩ := List.any_eq_true.mp z
  exact h e he k
theorem find_map_ne {t : Tab} {p r : Way} {l : Addr} {ls : List Way} (h : r ≠ p) : (t.map (fun e => if e.1 = p then (e.1, l, ls) else e)).find? (fun e => decide (e.1 = r)) = t.find? fun e => decide (e.1 = r) := by
  induction t with
  | nil => rfl
  | cons e t ih =>
    rw [List.map_cons, List.find?_cons, List.find?_cons]
    by_cases h1 : e.1 = p
    · rw [if_pos h1]
      have n : ¬ e.1 = r := fun z => h (z ▸ h1)
      show (match decide (e.1 = r) with | true => _ | false => _) = _
      rw [decide_eq_false n]
      exact ih
    · rw [if_neg h1]
      split
      · rfl
      · exact ih
theorem listT_put (t : Tab) (p r : Way) (l : Addr) (ls : List Way) : listT (putT t p l ls) r = if r = p then ls else listT t r := by
  unfold putT
  by_cases h : (t.any fun e => decide (e.1 = p)) = true
  · rw [if_pos h]
    by_cases hr : r = p
    · subst hr
      rw [if_pos rfl]
      unfold listT lookT
      obtain ⟨e, he, k⟩ := List.any_eq_true.mp h
      clear h
      induction t with
      | nil => cases he
      | cons e2 t ih =>
        rw [List.map_cons, List.find?_cons]
        by_cases h1 : e2.1 = r
        · rw [if_pos h1]
          show Option.getD (Option.map Prod.snd (Option.map Prod.snd (match decide (e2.1 = r) with | true => _ | false => _))) [] = ls
          rw [decide_eq_true h1]
          rfl
        · rw [if_neg h1, decide_eq_false h1]
          rcases List.mem_cons.mp he with rfl | he
          · exact absurd (of_decide_eq_true k) h1
          · exact ih he
    · rw [if_neg hr]
      unfold listT lookT
      rw [find_map_ne hr]
  · rw [if_neg h]
    unfold listT lookT
    rw [List.find?_append]
    by_cases hr : r = p
    · subst hr
      have : t.find? (fun e => decide (e.1 = r)) = none := by
        rw [List.find?_eq_none]
        exact fun e he k => h (List.any_eq_true.mpr ⟨e, he, k⟩)
      rw [if_pos rfl, this, List.find?_cons, decide_eq_true rfl]
      rfl
    · rw [if_neg hr, List.find?_cons, decide_eq_false (Ne.symm hr)]
      cases t.find? (fun e => decide (e.1 = r)) <;> rfl
theorem putT_mem {t : Tab} {p : Way} {l : Addr} {ls : List Way} {e : Way × Addr × List Way} (h : e ∈ putT t p l ls) : e ∈ t ∨ e = (p, l, ls) := by
  unfold putT at h
  split at h
  · obtain ⟨e0, h0, rfl⟩ := List.mem_map.mp h
    split
    · rename_i z
      rw [z]
      exact .inr rfl
    · exact .inl h0
  · rcases List.mem_append.mp h with h | h
    · exact .inl h
    · exact .inr (List.mem_singleton.mp h)
theorem putT_len (t : Tab) (p : Way) (l : Addr) (ls : List Way) : (putT t p l ls).length ≤ t.length + 1 := by
  unfold putT
  split
  · rw [List.length_map]
    omega
  · rw [List.length_append]
    exact Nat.le_refl _
theorem putT_nodup {t : Tab} {p : Way} {l : Addr} {ls : List Way} (h : (t.map Prod.fst).Nodup) : ((putT t p l ls).map Prod.fst).Nodup := by
  unfold putT
  split
  · have e : (t.map fun e => if e.1 = p then (e.1, l, ls) else e).map Prod.fst = t.map Prod.fst := by
      rw [List.map_map]
      refine List.map_congr_left fun e _ => ?_
      show (if e.1 = p then (e.1, l, ls) else e).1 = e.1
      split <;> rfl
    rw [e]
    exact h
  · rename_i hn
    rw [List.map_append]
    refine List.nodup_append.mpr ⟨h, by simp, fun a ha b hb => ?_⟩
    rintro rfl
    simp at hb
    obtain ⟨e, he, ee⟩ := List.mem_map.mp ha
    refine hn (List.any_eq_true.mpr ⟨e, he, decide_eq_true ?_⟩)
    rw [ee, hb]
theorem listT_of {t : Tab} (nd : (t.map Prod.fst).Nodup) {e : Way × Addr × List Way} (h : e ∈ t) : listT t e.1 = e.2.2 := by
  induction t with
  | nil => cases h
  | cons e2 t ih =>
    rw [List.map_cons, List.nodup_cons] at nd
    unfold listT lookT
    rw [List.find?_cons]
    by_cases h1 : e2.1 = e.1
    · rw [decide_eq_true h1]
      rcases List.mem_cons.mp h with rfl | h
      · rfl
      · exact absurd (List.mem_map.mpr ⟨e, h, h1.symm⟩) nd.1
    · rw [decide_eq_false h1]
      rcases List.mem_cons.mp h with rfl | h
      · exact absurd rfl h1
      · exact ih nd.2 h
/-! what a way adds -/
def added (y r : Way) (n : Nat) : List Way := (List.range n).flatMap fun (i : Nat) => (if r = placeOn y i then [placeOn y ((i : Int) + 1)] else []) ++ (if r = placeOn y ((i : Int) + 1) then [placeOn y i] else [])
theorem added_succ (y r : Way) (n : Nat) : added y r (n + 1) = added y r n ++ ((if r = placeOn y n then [placeOn y ((n : Int) + 1)] else []) ++ (if r = placeOn y ((n : Int) + 1) then [placeOn y n] else [])) := by
  unfold added
  rw [List.range_succ, List.flatMap_append, List.flatMap_cons, List.flatMap_nil, List.append_nil]
theorem placeOn_0 (y : Way) : placeOn y 0 = personP y.1 := if_pos rfl
theorem placeOn_b {y : Way} {i : Int} (h : i ≠ 0) (e : i = y.2.2) : placeOn y i = personP y.2.1 := by
  unfold placeOn
  rw [if_neg h, if_pos e]
theorem placeOn_m {y : Way} {i : Int} (h : i ≠ 0) (e : i ≠ y.2.2) : placeOn y i = (y.1, y.2.1, i) := by
  unfold placeOn
  rw [if_neg h, if_neg e]
theorem placeOn_inj {y : Way} (ne : y.1 ≠ y.2.1) {i j : Int} (i0 : 0 ≤ i) (i1 : i ≤ y.2.2) (j0 : 0 ≤ j) (j1 : j ≤ y.2.2) (h : placeOn y i = placeOn y j) : i = j := by
  have key : ∀ {a b d e : Str} {c f : Int}, ((a, b, c) : Way) = (d, e, f) → a = d ∧ b = e ∧ c = f := fun h => by
    injection h with h1 h2
    injection h2 with h2 h3
    exact ⟨h1, h2, h3⟩
  by_cases a1 : i = 0
  · by_cases b1 : j = 0
    · omega
    · rw [a1, placeOn_0] at h
      by_cases b2 : j = y.2.2
      · rw [placeOn_b b1 b2] at h
        exact absurd (key h).1 ne
      · rw [placeOn_m b1 b2] at h
        exact absurd (key h).2.1 ne
  · by_cases a2 : i = y.2.2
    · rw [placeOn_b a1 a2] at h
      by_cases b1 : j = 0
      · rw [b1, placeOn_0] at h
        exact absurd (key h).1.symm ne
      · by_cases b2 : j = y.2.2
        · omega
        · rw [placeOn_m b1 b2] at h
          exact absurd (key h).1.symm ne
    · rw [placeOn_m a1 a2] at h
      by_cases b1 : j = 0
      · rw [b1, placeOn_0] at h
        exact absurd (key h).2.1.symm ne
      · by_cases b2 : j = y.2.2
        · rw [placeOn_b b1 b2] at h
          exact absurd (key h).1 ne
        · rw [placeOn_m b1 b2] at h
          exact (key h).2.2
theorem added_on {y : Way} (ne : y.1 ≠ y.2.1) {j : Nat} (hj : (j : Int) ≤ y.2.2) : ∀ n : Nat, (n : Int) ≤ y.2.2 → added y (placeOn y j) n = (if 1 ≤ j ∧ j ≤ n then [placeOn y ((j : Int) - 1)] else []) ++ (if j < n then [placeOn y ((j : Int) + 1)] else [])
  | 0, _ => by
    rw [if_neg (by omega), if_neg (by omega)]
    rfl
  | n + 1, hn => by
    rw [added_succ, added_on ne hj n (by omega)]
    have e1 : (placeOn y j = placeOn y n) ↔ j = n := ⟨fun h => by
      have := placeOn_inj ne (by omega) hj (by omega) (by omega) h
      omega, fun h => by rw [h]⟩
    have e2 : (placeOn y j = placeOn y ((n : Int) + 1)) ↔ j = n + 1 := ⟨fun h => by
      have := placeOn_inj ne (by omega) hj (by omega) (by omega) h
      omega, fun h => by rw [h]; rfl⟩
    by_cases c1 : j = n
    · have h2 : ¬ j = n + 1 := by omega
      rw [if_neg (show ¬ (j < n) by omega), if_pos (e1.mpr c1), if_neg fun z => h2 (e2.mp z), if_pos (show j < n + 1 by omega), List.append_nil, List.append_nil]
      by_cases c3 : 1 ≤ j
      · rw [if_pos ⟨c3, by omega⟩, if_pos ⟨c3, by omega⟩, c1]
      · rw [if_neg (by omega), if_neg (by omega), c1]
    · by_cases c2 : j = n + 1
      · rw [if_neg (show ¬ (1 ≤ j ∧ j ≤ n) by omega), if_neg (show ¬ (j < n) by omega), if_neg fun z => c1 (e1.mp z), if_pos (e2.mpr c2), if_pos (show 1 ≤ j ∧ j ≤ n + 1 by omega), if_neg (show ¬ (j < n + 1) by omega)]
        rw [c2]
        simp
      · rw [if_neg fun z => c1 (e1.mp z), if_neg fun z => c2 (e2.mp z), List.append_nil, List.append_nil]
        by_cases c3 : 1 ≤ j ∧ j ≤ n
        · rw [if_pos c3, if_pos (show 1 ≤ j ∧ j ≤ n + 1 by omega), if_pos (show j < n by omega), if_pos (show j < n + 1 by omega)]
        · by_cases c4 : j < n
          · rw [if_neg c3, if_neg (show ¬ (1 ≤ j ∧ j ≤ n + 1) by omega), if_pos c4, if_pos (show j < n + 1 by omega)]
          · rw [if_neg c3, if_neg (show ¬ (1 ≤ j ∧ j ≤ n + 1) by omega), if_neg c4, if_neg (show ¬ j < n + 1 by omega)]
theorem added_off {y r : Way} (h : ∀ i : Int, 0 ≤ i → i ≤ y.2.2 → r ≠ placeOn y i) : ∀ n : Nat, (n : Int) ≤ y.2.2 → added y r n = []
  | 0, _ => rfl
  | n + 1, hn => by
    rw [added_succ, added_off h n (by omega), if_neg (h n (by omega) (by omega)), if_neg (h _ (by omega) (by omega))]
    rfl
theorem added_all {y r : Way} (ne : y.1 ≠ y.2.1) (b1 : 1 ≤ y.2.2) (h : r.1 = y.1 → r.2.1 = y.2.1 → 1 ≤ r.2.2 ∧ r.2.2 < y.2.2) : added y r y.2.2.toNat = (numbersBeside y r).map (placeOn y) := by
  unfold numbersBeside
  by_cases c1 : r = personP y.1
  · rw [if_pos c1]
    have e : r = placeOn y (0 : Nat) := by
      rw [c1]
      exact (placeOn_0 y).symm
    rw [e, added_on ne (by omega) _ (by omega), if_neg (by omega), if_pos (by omega)]
    rfl
  · rw [if_neg c1]
    by_cases c2 : r = personP y.2.1
    · rw [if_pos c2]
      have e : r = placeOn y (y.2.2.toNat : Nat) := by
        rw [c2]
        unfold placeOn
        rw [if_neg (by omega), if_pos (by omega)]
      rw [e, added_on ne (by omega) _ (by omega), if_pos (by omega), if_neg (by omega), List.append_nil]
      show [placeOn y _] = [placeOn y _]
      rw [show ((y.2.2.toNat : Nat) : Int) - 1 = y.2.2 - 1 by omega]
    · rw [if_neg c2]
      by_cases c3 : r.1 = y.1 ∧ r.2.1 = y.2.1
      · rw [if_pos c3]
        obtain ⟨h1, h2⟩ := h c3.1 c3.2
        have e2 : ((r.2.2.toNat : Nat) : Int) = r.2.2 := by omega
        have e : r = placeOn y (r.2.2.toNat : Nat) := by
          rw [e2, placeOn_m (by omega) (by omega)]
          exact Prod.ext c3.1 (Prod.ext c3.2 rfl)
        have key := added_on ne (j := r.2.2.toNat) (by omega) y.2.2.toNat (by omega)
        rw [← e, if_pos (by omega), if_pos (by omega), e2] at key
        exact key
      · rw [if_neg c3]
        refine added_off (fun i i0 i1 z => ?_) _ (by omega)
        unfold placeOn at z
        split at z
        · exact c1 z
        · split at z
          · exact c2 z
          · exact c3 ⟨by rw [z], by rw [z]⟩
end Cry
/-! Facts: beats between two, data that can be asked whether they are alike. -/
namespace Cry
open PySem PySem.Spec PyProof.Rows L2
theorem pairs_one {ways : List Way} (nd : PairsNd ways) {y z : Way} (hy : y ∈ ways) (hz : z ∈ ways) (h1 : y.1 = z.1) (h2 : y.2.1 = z.2.1) : y = z := by
  induction ways with
  | nil => cases hy
  | cons x ways ih =>
    unfold PairsNd at nd
    rw [List.map_cons, List.nodup_cons] at nd
    rcases List.mem_cons.mp hy with rfl | hy2
    · rcases List.mem_cons.mp hz with rfl | hz2
      · rfl
      · exact absurd (List.mem_map.mpr ⟨z, hz2, (Prod.ext h1 h2 : (y.1, y.2.1) = (z.1, z.2.1)).symm⟩) nd.1
    · rcases List.mem_cons.mp hz with rfl | hz2
      · exact absurd (List.mem_map.mpr ⟨y, hy2, (Prod.ext h1 h2 : (y.1, y.2.1) = (z.1, z.2.1))⟩) nd.1
      · exact ih nd.2 hy2 hz2
theorem between_of {ways : List Way} (pn : PairsNd ways) {y : Way} (hy : y ∈ ways) : between ways y.1 y.2.1 = y.2.2 := by
  unfold between
  cases e : ways.find? fun z => decide (z.1 = y.1) && decide (z.2.1 = y.2.1) with
  | none =>
    rw [List.find?_eq_none] at e
    have := e y hy
    simp at this
  | some z =>
    have h1 := List.find?_some e
    have h2 := List.mem_of_find?_eq_some e
    rw [Bool.and_eq_true, decide_eq_true_eq, decide_eq_true_eq] at h1
    rw [pairs_one pn h2 hy h1.1 h1.2]
    rfl
theorem Sm.shaped {B k : Nat} {d : PyData} (h : Sm B k d) (hk : k ≤ 64) : SeqAt.shaped d = true := by
  unfold SeqAt.shaped
  rw [h.lay, decide_eq_true (Nat.le_trans h.dp hk)]
  rfl
theorem list_dp {K : PySem.W.Frag} {H : Hp} {l : Addr} {vs : List V} {ds : List PyData} (hl : H l = some (.lst vs)) (im : Ims H vs ds) : Dp K H (.ref l) (.list ds) := .lst (SqL.of hl) im.dp
mutual
theorem eqv_self : ∀ d : PyData, d.canLay0 = true → PyData.eqv d d = true
  | .none, _ => rfl
  | .bool b, _ => by cases b <;> rfl
  | .int i, _ => by
    show (i == i) = true
    simp
  | .str x, _ => by
    rw [eqv_str]
    exact decide_eq_true rfl
  | .list ds, h => eqvs_self ds h
  | .tuple ds, h => eqvs_self ds h
theorem eqvs_self : ∀ ds : List PyData, PyData.canLayAll0 ds = true → PyData.eqvAll ds ds = true
  | [], _ => rfl
  | d :: ds, h => by
    have h2 : (d.canLay0 && PyData.canLayAll0 ds) = true := h
    rw [Bool.and_eq_true] at h2
    show (PyData.eqv d d && PyData.eqvAll ds ds) = true
    rw [eqv_self d h2.1, eqvs_self ds h2.2]
    rfl
end
end Cry
namespace Cry
open PySem PySem.Spec PyProof.Rows L2
/-! `_law_beside`, in the heap. -/
section
variable {P : Program} {w : World} {K : PySem.W.Frag} {mg : Str → Option Value} {base : Heap}
structure TabAt (H : Hp) (D : Addr) (t : Tab) : Prop where
  dt : H D = some (.dT (tabK t))
  each : ∀ e ∈ t, e.2.1 ≠ D ∧ ∃ vs, H e.2.1 = some (.lst vs) ∧ Ims H vs (e.2.2.map wayD3)
theorem TabAt.on {H H' : Hp} {D : Addr} {t : Tab} (h : TabAt H D t) (s : Same H H') : TabAt H' D t :=
  ⟨s _ _ h.dt, fun e he => by
    obtain ⟨n, vs, h1, h2⟩ := h.each e he
    exact ⟨n, vs, s _ _ h1, h2.on (TS.same s)⟩⟩
theorem TabAt.put {H : Hp} {D l : Addr} {t : Tab} {p : Way} {ls : List Way} {vs : List V} (h : TabAt H D t) (hl : H l = some (.lst vs)) (im : Ims H vs (ls.map wayD3)) : TabAt (upd H D (.dT (tabK (putT t p l ls)))) D (putT t p l ls) := by
  have nl : l ≠ D := by
    rintro rfl
    rw [h.dt] at hl
    cases hl
  have ts : TS H (upd H D (.dT (tabK (putT t p l ls)))) := fun b ys e => by
    rw [upd_ne (fun z => by rw [z, h.dt] at e; cases e)]
    exact e
  refine ⟨upd_same, fun e he => ?_⟩
  rcases putT_mem he with he | rfl
  · obtain ⟨n, vs', h1, h2⟩ := h.each e he
    exact ⟨n, vs', by rw [upd_ne n]; exact h1, h2.on ts⟩
  · exact ⟨nl, vs, by rw [upd_ne nl]; exact hl, im.on ts⟩
/-- the table as far as it is made -/
structure Bes (Pv : Way → Prop) (H0 H : Hp) (D : Addr) (t : Tab) (S : Way → List Way) (cnt : Nat) : Prop where
  same : Same H0 H
  fr : H0 D = none
  at_ : TabAt H D t
  nd : (t.map Prod.fst).Nodup
  ok : ∀ e ∈ t, Pv e.1
  len : t.length ≤ cnt
  lens : ∀ r, (S r).length ≤ cnt
  spec : ∀ r, listT t r = S r
theorem Bes.on {Pv : Way → Prop} {H0 H H' : Hp} {D : Addr} {t : Tab} {S : Way → List Way} {cnt : Nat} (b : Bes Pv H0 H D t S cnt) (s : Same H H') : Bes Pv H0 H' D t S cnt :=
  ⟨b.same.trans s, b.fr, b.at_.on s, b.nd, b.ok, b.len, b.lens, b.spec⟩
theorem Bes.put {Pv : Way → Prop} {H0 H : Hp} {D l : Addr} {t : Tab} {S : Way → List Way} {cnt : Nat} (b : Bes Pv H0 H D t S cnt) {p : Way} {ls : List Way} {vs : List V} (hl : H l = some (.lst vs)) (im : Ims H vs (ls.map wayD3)) (pv : Pv p) {S' : Way → List Way}
    (hS : ∀ r, S' r = if r = p then ls else S r) (hc : ls.length ≤ cnt + 1) : Bes Pv H0 (upd H D (.dT (tabK (putT t p l ls)))) D (putT t p l ls) S' (cnt + 1) := by
  refine ⟨same_at b.same b.fr, b.fr, b.at_.put hl im, putT_nodup b.nd, fun e he => ?_, Nat.le_trans (putT_len _ _ _ _) (Nat.succ_le_succ b.len), fun r => ?_, fun r => ?_⟩
  · rcases putT_mem he with he | rfl
    · exact b.ok e he
    · exact pv
  · rw [hS]
    split
    · exact hc
    · exact Nat.le_succ_of_le (b.lens r)
  · rw [listT_put, hS, b.spec]
theorem add_step {Pv : Way → Prop} {H0 H : Hp} {D : Addr} {t : Tab} {S : Way → List Way} {cnt : Nat} (b : Bes Pv H0 H D t S cnt) (hc : cnt ≤ 10000) {p q : Way} {b1 b2 : Addr} (h1 : H b1 = some (.tup (y3 p))) (h2 : H b2 = some (.tup (y3 q))) (pv : Pv p)
    {Dx : Ends} {σ : Slots} {i1 i2 i3 : Nat} (e1 : σ[i1]? = some (some (.ref D))) (e2 : σ[i2]? = some (some (.ref b1))) (e3 : σ[i3]? = some (some (.ref b2)))
    (k : ∀ t' H', Bes Pv H0 H' D t' (fun r => if r = p then S r ++ [q] else S r) (cnt + 1) → SameO D H H' → Dx.nx σ H') :
    sDPut (tVar i1) (tVar i2) (tOp rCat (tDGet2 (tVar i1) (tVar i2) (tLst tNil)) (tLst (tCons (tVar i3) tNil))) Dx σ H := by
  refine ⟨_, e1, D, rfl, .inr ⟨_, .inl b.at_.dt⟩, _, e2, Nat.zero_le _, fun z nz => ?_⟩
  have s1 : Same H (upd H z (.lst [])) := same_new nz
  have bz := b.on s1
  have nzD : z ≠ D := by
    rintro rfl
    rw [b.at_.dt] at nz
    cases nz
  obtain ⟨l0, vs0, eo, hl0, im0⟩ : ∃ l0 vs0, ((valV (tabK t) (k3 p)).getD (.ref z)) = V.ref l0 ∧ (upd H z (.lst [])) l0 = some (.lst vs0) ∧ Ims (upd H z (.lst [])) vs0 ((S p).map wayD3) := by
    rw [lookT_val, ← b.spec]
    unfold listT
    cases e : lookT t p with
    | none => exact ⟨z, [], rfl, upd_same, .nil⟩
    | some x =>
      obtain ⟨n, vs, k1, k2⟩ := bz.at_.each _ (lookT_mem e)
      exact ⟨x.1, vs, rfl, k1, k2⟩
  refine ⟨_, DGet.t (k := k3 p) bz.at_.dt (s1 _ _ h1), ?_⟩
  rw [eo]
  refine ⟨_, e3, by show 1 ≤ sizeLine; decide, fun z2 nz2 => ?_⟩
  have s2 := same_new (o := .lst [.ref b2]) nz2
  have ll : vs0.length = (S p).length := by rw [im0.length, List.length_map]
  have lb := b.lens p
  refine ⟨l0, z2, _, _, rfl, rfl, s2 _ _ hl0, upd_same, Nat.le_trans (show vs0.length + 1 ≤ 10001 by omega) (by decide), fun l nl => ?_⟩
  have s3 := same_new (o := .lst (vs0 ++ [.ref b2])) nl
  have s13 := (s1.trans s2).trans s3
  have b3 := b.on s13
  have im3 : Ims (upd (upd (upd H z (.lst [])) z2 (.lst [.ref b2])) l (.lst (vs0 ++ [.ref b2]))) (vs0 ++ [.ref b2]) ((S p ++ [q]).map wayD3) := by
    rw [List.map_append]
    exact (im0.on (TS.same (s2.trans s3))).append (.cons (way_im (s13 _ _ h2)) .nil)
  refine ⟨_, e1, _, e2, D, _, rfl, DPut.t (k := k3 p) b3.at_.dt (s13 _ _ h1) (by unfold tabK; rw [List.length_map]; exact Nat.lt_of_le_of_lt (Nat.le_trans b.len hc) (by decide)), ?_⟩
  rw [putT_tab]
  refine k _ _ (b3.put (ls := S p ++ [q]) upd_same im3 pv (fun r => ?_) (by rw [List.length_append]; exact Nat.succ_le_succ lb)) fun x o n e => ?_
  · show (if r = p then S r ++ [q] else S r) = _
    by_cases h : r = p
    · rw [if_pos h, if_pos h, h]
    · rw [if_neg h, if_neg h]
  · rw [upd_ne n]
    exact s13 _ _ e
abbrev nBesd : List Str := ["web", "found", "name", "one", "other", "beats", "line", "here", "there", "at"]
theorem scBesd : FnScope nBesd ["web"] (defScope sBesd) := ⟨rfl, rfl, rfl, by decide +kernel, rfl, by decide +kernel, by decide +kernel⟩
/-- a place of the web -/
def PlaceV (names : List Str) (ways : List Way) (r : Way) : Prop := (∃ x ∈ names, r = personP x) ∨ ∃ y ∈ ways, r.1 = y.1 ∧ r.2.1 = y.2.1 ∧ 1 ≤ r.2.2 ∧ r.2.2 < y.2.2
/-- what the first ways add to a place -/
def addedW (ways : List Way) (r : Way) : List Way := ways.flatMap fun y => added y r y.2.2.toNat
theorem inNames_mem {x : Str} {names : List Str} (h : inNames x names = true) : x ∈ names := by
  unfold inNames inV at h
  obtain ⟨v, hv, e⟩ := List.any_eq_true.mp h
  obtain ⟨z, hz, rfl⟩ := List.mem_map.mp hv
  have : decide (z = x) = true := e
  rw [← of_decide_eq_true this]
  exact hz
theorem way_ne {names : List Str} {ways : List Way} (wok : WebOk names ways) {y : Way} (hy : y ∈ ways) : y.1 ≠ y.2.1 := fun e => by
  have h := (wok.way y hy).2.2.2.2.2.2
  unfold ltS at h
  rw [e] at h
  exact List.lt_irrefl _ (of_decide_eq_true h)
theorem addedW_beside {names : List Str} {ways : List Way} (wok : WebOk names ways) (nd : PairsNd ways) {r : Way} (h : PlaceV names ways r) : addedW ways r = besideL ways r := by
  have each : ∀ y ∈ ways, added y r y.2.2.toNat = (numbersBeside y r).map (placeOn y) := fun y hy => by
    refine added_all (way_ne wok hy) (wok.way y hy).2.2.1 fun h1 h2 => ?_
    rcases h with ⟨x, _, rfl⟩ | ⟨z, hz, k1, k2, k3, k4⟩
    · exact absurd (h1.symm.trans h2) (way_ne wok hy)
    · have e := pairs_one nd hz hy (k1.symm.trans h1) (k2.symm.trans h2)
      rw [← e]
      exact ⟨k3, k4⟩
  unfold addedW besideL
  clear wok nd h
  induction ways with
  | nil => rfl
  | cons y ways ih =>
    rw [List.flatMap_cons, List.flatMap_cons, each y (List.mem_cons_self ..), ih fun z hz => each z (List.mem_cons_of_mem _ hz)]
theorem placeV_on {names : List Str} {ways : List Way} (wok : WebOk names ways) {y : Way} (hy : y ∈ ways) {i : Int} (i0 : 0 ≤ i) (i1 : i ≤ y.2.2) : PlaceV names ways (placeOn y i) := by
  obtain ⟨_, _, _, _, k5, k6, _⟩ := wok.way y hy
  by_cases h : i = 0
  · rw [h, placeOn_0]
    exact .inl ⟨_, inNames_mem k5, rfl⟩
  · by_cases h2 : i = y.2.2
    · rw [placeOn_b h h2]
      exact .inl ⟨_, inNames_mem k6, rfl⟩
    · rw [placeOn_m h h2]
      refine .inr ⟨y, hy, rfl, rfl, ?_, ?_⟩
      · show 1 ≤ i
        omega
      · show i < y.2.2
        omega
theorem ifs_two {α : Type} (p q : Prop) [Decidable p] [Decidable q] (A B : List α) (x z : α) : A ++ (B ++ ((if p then [x] else []) ++ (if q then [z] else []))) = if q then (if p then A ++ B ++ [x] else A ++ B) ++ [z] else (if p then A ++ B ++ [x] else A ++ B) := by
  by_cases h1 : p <;> by_cases h2 : q <;> simp [h1, h2]
def spBesd : Sp := fun vs H Q _ => ∃ (T : Addr) (names : List Str) (ways : List Way), vs = [.ref T] ∧ WebAt H T names ways ∧ WebOk names ways ∧ PairsNd ways ∧ names.length ≤ 12 ∧ ways.length ≤ 101 ∧ (∀ y ∈ ways, y.2.2 ≤ 9) ∧
  ∀ (D : Addr) (t : Tab) (S : Way → List Way) (H' : Hp), Bes (PlaceV names ways) H H' D t S 2000 → (∀ e ∈ t, e.2.2 = besideL ways e.1) → Q (.ref D) H'
/-- the places of a way stand in a list -/
def LineAt (H : Hp) (y : Way) (vs : List V) : Prop := vs.length = y.2.2.toNat + 1 ∧ ∀ (i : Nat) (v : V), vs[i]? = some v → ∃ c, v = .ref c ∧ H c = some (.tup (y3 (placeOn y i)))
theorem Bes.spec_eq {Pv : Way → Prop} {H0 H : Hp} {D : Addr} {t : Tab} {S S' : Way → List Way} {cnt : Nat} (b : Bes Pv H0 H D t S cnt) (h : ∀ r, S' r = S r) : Bes Pv H0 H D t S' cnt :=
  ⟨b.same, b.fr, b.at_, b.nd, b.ok, b.len, fun r => by rw [h]; exact b.lens r, fun r => by rw [h]; exact b.spec r⟩
theorem Bes.mono {Pv : Way → Prop} {H0 H : Hp} {D : Addr} {t : Tab} {S : Way → List Way} {c d : Nat} (b : Bes Pv H0 H D t S c) (h : c ≤ d) : Bes Pv H0 H D t S d :=
  ⟨b.same, b.fr, b.at_, b.nd, b.ok, Nat.le_trans b.len h, fun r => Nat.le_trans (b.lens r) h, b.spec⟩
theorem ok_besd {f : Addr} {fd : FuncData} (F : Fun K "_law_beside" "_law_beside" sBesd f fd) (mR : mg "range" = none) (mZ : mg "zip" = none) : FnOk P w K mg base CX0 1 f fd ["web"] spBesd := by
  refine F.ok scBesd (fun vs H Q E h => ?_) (fun cdv A outer s H vs Q E hr h => ?_)
  · obtain ⟨T, names, ways, rfl, _⟩ := h
    rfl
  · obtain ⟨T, names, ways, rfl, ⟨Fa, W, ws, hT, hF, hW, hI⟩, wok, pn, n12, w101, near, q⟩ := h
    refine ⟨_, pss_cons (ps_set (i := 1) scBesd.nd rfl (Or.inl rfl) pe_dnewT)
      (pss_cons (ps_for PassesOwn.never rfl (pi_list (pe_ix ix_tup (pv 0) pe_int (fun _ _ => rfl))) (pg_name (i := 2) scBesd.nd rfl (Or.inl rfl))
        (pss_one (ps_dput (u1 hr.units) (pv 1) (pe_tup (pa_cons (pv 2) (pa_cons (pv 2) (pa_cons pe_int pa_nil)))) (pe_lst pa_nil) (by rfl))))
      (pss_cons (ps_for PassesOwn.never rfl (pi_list (pe_ix ix_tup (pv 0) pe_int (fun _ _ => rfl))) (pg_tup rfl (pgs_cons (pg_name (i := 3) scBesd.nd rfl (Or.inr rfl)) (pgs_cons (pg_name (i := 4) scBesd.nd rfl (Or.inr rfl)) (pgs_cons (pg_name (i := 5) scBesd.nd rfl (Or.inl rfl)) pgs_nil))))
        (pss_cons (ps_set (i := 6) scBesd.nd rfl (Or.inl rfl) (pe_op op_cat (pe_op op_cat (pe_lst (pa_cons (pe_tup (pa_cons (pv 3) (pa_cons (pv 3) (pa_cons pe_int pa_nil)))) pa_nil))
            (pe_lc (own := [("at", 9)]) (g := gName 9) (tt := tYes) (te := tTup (tCons (tVar 3) (tCons (tVar 4) (tCons (tVar 9) tNil)))) rfl scBesd.nd (pi_range2 (by rfl) mR (pa_cons pe_int (pa_cons (pv 5) pa_nil)))
              (blkOk_by (N := nBesd) (sc := defScope sBesd) (by decide +kernel)) (fun _ _ _ _ _ => pg_name (i := 9) scBesd.nd rfl (Or.inl rfl)) (fun _ _ _ _ _ => pts_nil)
              (fun _ _ _ _ _ => pe_tup (pa_cons (pv 3) (pa_cons (pv 4) (pa_cons (pv 9) pa_nil))))))
            (pe_lst (pa_cons (pe_tup (pa_cons (pv 4) (pa_cons (pv 4) (pa_cons pe_int pa_nil)))) pa_nil))))
          (pss_one (ps_for PassesOwn.never rfl (RZ.pi_zipA (by rfl) mZ (pa_cons (pv 6) (pa_cons (pe_slice sl_list (pv 6) (po_some pe_int) po_none) pa_nil))) (pg_tup rfl (pgs_cons (pg_name (i := 7) scBesd.nd rfl (Or.inl rfl)) (pgs_cons (pg_name (i := 8) scBesd.nd rfl (Or.inl rfl)) pgs_nil)))
            (pss_cons (ps_dput (u1 hr.units) (pv 1) (pv 7) (pe_op op_cat (pe_dget2 (u1 hr.units) (pv 1) (pv 7) (pe_lst pa_nil) ⟨rfl, rfl, rfl, rfl⟩) (pe_lst (pa_cons (pv 8) pa_nil))) (by rfl))
              (pss_one (ps_dput (u1 hr.units) (pv 1) (pv 8) (pe_op op_cat (pe_dget2 (u1 hr.units) (pv 1) (pv 8) (pe_lst pa_nil) ⟨rfl, rfl, rfl, rfl⟩) (pe_lst (pa_cons (pv 7) pa_nil))) (by rfl))))))))
      (pss_one (ps_ret (pv 1))))), ?_⟩
    intro D nD
    have lw := hI.length
    rw [List.length_map] at lw
    have b0 : Bes (PlaceV names ways) H (upd H D (.dT [])) D [] (fun _ => []) 0 :=
      ⟨same_new nD, nD, ⟨upd_same, (fun e he => nomatch he)⟩, List.nodup_nil, (fun e he => nomatch he), Nat.le_refl _, (fun _ => Nat.le_refl _), (fun _ => rfl)⟩
    refine ⟨_, rfl, T, _, 0, _, rfl, rfl, SqT.of (b0.same _ _ hT), atI_nat (j := 0) rfl, Fa, rfl, ⟨_, SqL.of (b0.same _ _ hF)⟩, ?_⟩
    -- the names
    refine for_it (walk_list (K := K) (a := Fa) (xs := names.map V.str)) (fun i σ H2 => ∃ (u : Option V) (t : Tab), σ = [some (.ref T), some (.ref D), u, none, none, none, none, none, none, none] ∧ Bes (PlaceV names ways) H H2 D t (fun _ => []) i)
      ⟨none, [], rfl, b0⟩ (fun i σ H2 _ ⟨_, _, _, b⟩ => b.same.seq (SqL.of hF)) ?_ ?_
    · rintro i x σ H2 H3 hi ⟨u, t, rfl, b⟩ ⟨rfl, ex⟩
      rw [List.length_map] at hi
      rw [List.getElem?_map, List.getElem?_eq_getElem hi] at ex
      cases ex
      refine ⟨Nat.zero_le _, fun z nz => ⟨_, rfl, _, rfl, _, rfl, by show 3 ≤ sizeLine; decide, fun c nc => ?_⟩⟩
      have b2 := (b.on (same_new (o := .lst []) nz)).on (same_new (o := .tup [.str names[i], .str names[i], .int 0]) nc)
      refine ⟨D, _, rfl, DPut.t (k := k3 (personP names[i])) b2.at_.dt upd_same (by unfold tabK; rw [List.length_map]; exact Nat.lt_of_le_of_lt (Nat.le_trans b.len (show i ≤ 100 by omega)) (by decide)), ?_⟩
      rw [putT_tab]
      refine ⟨_, _, rfl, b2.put (l := z) (ls := []) (vs := []) (same_new nc _ _ upd_same) .nil (.inl ⟨_, List.getElem_mem _, rfl⟩) (fun r => ?_) (Nat.zero_le _)⟩
      split <;> rfl
    · rintro σ H2 ⟨u, t, rfl, b⟩
      rw [List.length_map] at b
      refine ⟨_, rfl, T, _, 1, _, rfl, rfl, SqT.of (b.same _ _ hT), atI_nat (j := 1) rfl, W, rfl, ⟨_, SqL.of (b.same _ _ hW)⟩, ?_⟩
      -- the ways
      refine for_it (walk_list (K := K) (a := W) (xs := ws)) (fun i σ H2 => ∃ (u2 u3 u4 u5 u6 u7 u8 : Option V) (t : Tab), σ = [some (.ref T), some (.ref D), u2, u3, u4, u5, u6, u7, u8, none] ∧ Bes (PlaceV names ways) H H2 D t (addedW (ways.take i)) (12 + 18 * i))
        ⟨u, none, none, none, none, none, none, t, rfl, (b.spec_eq fun r => rfl).mono (by omega)⟩ (fun i σ H2 _ ⟨_, _, _, _, _, _, _, _, _, b⟩ => b.same.seq (SqL.of hW)) ?_ ?_
      · rintro i x σ H3 H4 hi ⟨u2, u3, u4, u5, u6, u7, u8, t, rfl, b⟩ ⟨rfl, ex⟩
        obtain ⟨y, ey⟩ : ∃ y, ways[i]? = some y := ⟨_, List.getElem?_eq_getElem (by omega)⟩
        have hy := List.mem_of_getElem? ey
        obtain ⟨d, ed, im⟩ := Ims.at hI ex
        rw [List.getElem?_map, ey] at ed
        cases ed
        obtain ⟨cy, rfl, hcy⟩ := im_way im
        have ylo := (wok.way y hy).2.2.1
        have yhi := near y hy
        have i101 : i < 101 := by omega
        refine ⟨cy, _, rfl, SqT.of (b.same _ _ hcy), rfl, _, _, rfl, _, _, rfl, _, _, rfl, rfl, ?_⟩
        refine ⟨_, rfl, _, rfl, by show 3 ≤ sizeLine; decide, fun c1 n1 => ⟨by show 1 ≤ sizeLine; decide, fun L1 n2 => ?_⟩⟩
        have s1 := same_new (o := .tup [.str y.1, .str y.1, .int 0]) n1
        have s2 := same_new (o := .lst [.ref c1]) n2
        have b2 := (b.on s1).on s2
        refine ⟨_, rfl, 1, y.2.2, rfl, ⟨by decide, by decide, by omega, by omega⟩, fun D2 nD2 => ?_⟩
        generalize hHc : (upd (upd H4 c1 (.tup [.str y.1, .str y.1, .int 0])) L1 (.lst [.ref c1])) = Hc at b2 nD2
        have hL1 : Hc L1 = some (.lst [.ref c1]) := by rw [← hHc]; exact upd_same
        have hc1 : Hc c1 = some (.tup [.str y.1, .str y.1, .int 0]) := by rw [← hHc]; exact s2 _ _ upd_same
        refine lc_gen (walk_range (lo := 1) (n := (y.2.2 - 1).toNat)) TS (fun _ H' => Same Hc H') (fun j v H' => ∃ c, v = .ref c ∧ H' c = some (.tup (y3 (placeOn y ((j : Int) + 1))))) (Nat.le_trans (show (y.2.2 - 1).toNat ≤ 100 by omega) (by decide))
          (fun H' acc acc' h => TS.lst h) (fun j H' acc acc' _ gd => same_at gd nD2) (fun j v H' H'' t h => by
            obtain ⟨c, e, k⟩ := h
            exact ⟨c, e, t _ _ k⟩) (same_new nD2) (fun _ _ _ => True.intro) (fun j v H5 H6 acc Z hj s5 hacc hv k => ?_) (fun H5 ys s5 h5 hlen hR => ?_)
        · obtain ⟨rfl, rfl⟩ := hv
          refine ⟨rfl, ⟨_, rfl, _, rfl, _, rfl, by show 3 ≤ sizeLine; decide, fun c nc => ?_⟩⟩
          refine k _ _ (same_new nc _ _ hacc) (TS.new nc) (s5.trans (same_new nc)) ⟨c, rfl, ?_⟩
          rw [placeOn_m (by omega) (by omega), upd_same]
          show some (HO.tup [.str y.1, .str y.2.1, .int (1 + (j : Int))]) = some (.tup [.str y.1, .str y.2.1, .int ((j : Int) + 1)])
          rw [Int.add_comm]
        have b5 := b2.on s5
        refine ⟨L1, D2, _, _, rfl, rfl, s5 _ _ hL1, h5, Nat.le_trans (show 1 + ys.length ≤ 100 by omega) (by decide), fun L2 n3 => ?_⟩
        have s6 := same_new (o := .lst ([.ref c1] ++ ys)) n3
        refine ⟨_, rfl, _, rfl, by show 3 ≤ sizeLine; decide, fun c2 n4 => ⟨by show 1 ≤ sizeLine; decide, fun L3 n5 => ?_⟩⟩
        have s7 := same_new (o := .tup [.str y.2.1, .str y.2.1, .int 0]) n4
        have s8 := same_new (o := .lst [.ref c2]) n5
        refine ⟨L2, L3, _, _, rfl, rfl, (s7.trans s8) _ _ upd_same, upd_same, Nat.le_trans (show ([V.ref c1] ++ ys).length + 1 ≤ 100 by rw [List.length_append]; show 1 + ys.length + 1 ≤ 100; omega) (by decide), fun Ll n6 => ?_⟩
        have s9 := same_new (o := .lst (([.ref c1] ++ ys) ++ [.ref c2])) n6
        have s59 := ((s6.trans s7).trans s8).trans s9
        have b9 := b5.on s59
        have hLl : (upd (upd (upd (upd H5 L2 (.lst ([.ref c1] ++ ys))) c2 (.tup [.str y.2.1, .str y.2.1, .int 0])) L3 (.lst [.ref c2])) Ll (.lst (([.ref c1] ++ ys) ++ [.ref c2]))) Ll = some (.lst (([.ref c1] ++ ys) ++ [.ref c2])) := upd_same
        have line : LineAt (upd (upd (upd (upd H5 L2 (.lst ([.ref c1] ++ ys))) c2 (.tup [.str y.2.1, .str y.2.1, .int 0])) L3 (.lst [.ref c2])) Ll (.lst (([.ref c1] ++ ys) ++ [.ref c2]))) y (([.ref c1] ++ ys) ++ [.ref c2]) := by
          refine ⟨?_, fun j v e => ?_⟩
          · rw [List.length_append, List.length_append]
            show 1 + ys.length + 1 = _
            omega
          · by_cases j0 : j = 0
            · subst j0
              cases e
              refine ⟨c1, rfl, ?_⟩
              rw [show ((0 : Nat) : Int) = 0 from rfl, placeOn_0]
              exact (s5.trans s59) _ _ hc1
            · by_cases jb : j < y.2.2.toNat
              · obtain ⟨j, rfl⟩ : ∃ k, j = k + 1 := ⟨j - 1, by omega⟩
                rw [List.getElem?_append_left (by rw [List.length_append]; show j + 1 < 1 + ys.length; omega)] at e
                have e' : ys[j]? = some v := by simpa using e
                obtain ⟨c, rfl, hc⟩ := hR j v e'
                exact ⟨c, rfl, s59 _ _ hc⟩
              · have lenA : ([V.ref c1] ++ ys).length = y.2.2.toNat := by
                  rw [List.length_append]
                  show 1 + ys.length = _
                  omega
                rw [List.getElem?_append_right (by omega), lenA] at e
                have jj : j = y.2.2.toNat := by
                  have := (List.getElem?_eq_some_iff.mp e).1
                  have h1 : ([V.ref c2] : List V).length = 1 := rfl
                  omega
                rw [jj, Nat.sub_self] at e
                cases e
                refine ⟨c2, rfl, ?_⟩
                rw [jj, placeOn_b (by omega) (by omega)]
                exact (s8.trans s9) _ _ upd_same
        generalize (([V.ref c1] ++ ys) ++ [V.ref c2]) = vs at hLl line b9 ⊢
        generalize (upd (upd (upd (upd H5 L2 (.lst ([.ref c1] ++ ys))) c2 (.tup [.str y.2.1, .str y.2.1, .int 0])) L3 (.lst [.ref c2])) Ll (.lst vs)) = Hs at hLl line b9 ⊢
        refine ⟨_, rfl, _, rfl, 1, rfl, Ll, vs, rfl, SqL.of hLl, fun L4 n7 => ?_⟩
        rw [cut_tail]
        have s10 : Same Hs (upd Hs L4 (.lst (vs.drop 1))) := same_new n7
        have b10 := b9.on s10
        have hLl10 := s10 _ _ hLl
        have hL4 : (upd Hs L4 (.lst (vs.drop 1))) L4 = some (.lst (vs.drop 1)) := upd_same
        have line10 : LineAt (upd Hs L4 (.lst (vs.drop 1))) y vs := ⟨line.1, fun j v e => by
          obtain ⟨c, e1, e2⟩ := line.2 j v e
          exact ⟨c, e1, s10 _ _ e2⟩⟩
        generalize (upd Hs L4 (.lst (vs.drop 1))) = Ht at b10 hLl10 hL4 line10 ⊢
        have ne1 : Ll ≠ D := by
          rintro rfl
          rw [b10.at_.dt] at hLl10
          cases hLl10
        have ne2 : L4 ≠ D := by
          rintro rfl
          rw [b10.at_.dt] at hL4
          cases hL4
        have lvs := line10.1
        refine ⟨Ll, L4, vs, vs.drop 1, rfl, .inl ⟨SqL.of hLl10, SqL.of hL4, ?_⟩⟩
        refine for_it (walk_zip (K := K) (a := Ll) (b := L4) (xs := vs) (ys := vs.drop 1) (n := y.2.2.toNat) (by rw [List.length_drop]; omega)) (fun j σ H2 => ∃ (u7 u8 : Option V) (t : Tab), σ = [some (.ref T), some (.ref D), u2, some (.str y.1), some (.str y.2.1), some (.int y.2.2), some (.ref Ll), u7, u8, none] ∧
            Bes (PlaceV names ways) H H2 D t (fun r => addedW (ways.take i) r ++ added y r j) (12 + 18 * i + 2 * j) ∧ SameO D Ht H2)
          ⟨u7, u8, t, rfl, (b10.spec_eq fun r => by simp [added]).mono (by omega), fun _ _ _ e => e⟩ (fun j σ H2 _ ⟨_, _, _, _, _, so⟩ => ⟨SqL.of (so _ _ ne1 hLl10), SqL.of (so _ _ ne2 hL4)⟩) ?_ ?_
        · rintro j x σ H6 H7 hj ⟨w7, w8, t, rfl, bj, so⟩ ⟨Tz, u, v, rfl, nT, rfl, eu, ev⟩
          dsimp only at eu ev
          rw [List.getElem?_drop, Nat.add_comm 1 j] at ev
          obtain ⟨d1, rfl, hd1⟩ := line10.2 j u eu
          obtain ⟨d2, rfl, hd2⟩ := line10.2 (j + 1) v ev
          have n1D : d1 ≠ D := by
            rintro rfl
            rw [b10.at_.dt] at hd1
            cases hd1
          have n2D : d2 ≠ D := by
            rintro rfl
            rw [b10.at_.dt] at hd2
            cases hd2
          have sT := same_new (o := .tup [.ref d1, .ref d2]) nT
          have bj2 := bj.on sT
          have k1 := sT _ _ (so _ _ n1D hd1)
          have k2 := sT _ _ (so _ _ n2D hd2)
          have cast : (((j + 1 : Nat)) : Int) = (j : Int) + 1 := by omega
          rw [cast] at k2
          refine ⟨Tz, _, rfl, SqT.of upd_same, rfl, _, _, rfl, _, _, rfl, rfl, ?_⟩
          refine add_step bj2 (by omega) (p := placeOn y j) (q := placeOn y ((j : Int) + 1)) (b1 := d1) (b2 := d2) k1 k2 (placeV_on wok hy (by omega) (by omega)) (i1 := 1) (i2 := 7) (i3 := 8) rfl rfl rfl fun t1 H8 bj3 so8 => ?_
          refine add_step bj3 (by omega) (p := placeOn y ((j : Int) + 1)) (q := placeOn y j) (b1 := d2) (b2 := d1) (so8 _ _ n2D k2) (so8 _ _ n1D k1) (placeV_on wok hy (by omega) (by omega)) (i1 := 1) (i2 := 8) (i3 := 7) rfl rfl rfl fun t2 H9 bj4 so9 => ?_
          refine ⟨_, _, t2, rfl, (bj4.spec_eq fun r => ?_).mono (by omega), ((so.trans (SameO.of sT)).trans so8).trans so9⟩
          rw [added_succ]
          exact ifs_two (r = placeOn y j) (r = placeOn y ((j : Int) + 1)) _ _ _ _
        · rintro σ H6 ⟨w7, w8, t, rfl, bj, so⟩
          refine ⟨_, _, _, _, _, _, _, t, rfl, (bj.spec_eq fun r => ?_).mono (by omega)⟩
          unfold addedW
          rw [List.take_add_one, ey, List.flatMap_append]
          simp
      · rintro σ H3 ⟨u2, u3, u4, u5, u6, u7, u8, t, rfl, b⟩
        rw [lw, List.take_length] at b
        refine ⟨_, rfl, q D t _ H3 (b.mono (by omega)) fun e he => ?_⟩
        rw [← listT_of b.nd he, b.spec]
        exact addedW_beside wok pn (b.ok e he)
end
end Cry
namespace Cry
open PySem PySem.Spec PyProof.Rows L2
/-! `_law_due`: the neighbours of a place, told way by way. -/
section
variable {P : Program} {w : World} {K : PySem.W.Frag} {mg : Str → Option Value} {base : Heap}
abbrev nDue : List Str := ["web", "place", "found", "one", "other", "beats"]
theorem scDue : FnScope nDue ["web", "place"] (defScope sDue) := ⟨rfl, rfl, rfl, by decide +kernel, rfl, by decide +kernel, by decide +kernel⟩
def spDue : Sp := fun vs H Q _ => ∃ (T : Addr) (u : V) (names : List Str) (ways : List Way) (p : Way), vs = [.ref T, u] ∧ WebAt H T names ways ∧ Im H u (wayD3 p) ∧ WebOk names ways ∧ PairsNd ways ∧ PlaceV names ways p ∧ givesL H Q (sortD ((besideL ways p).map wayD3))
theorem placeV_names {names : List Str} {ways : List Way} (wok : WebOk names ways) {p : Way} (h : PlaceV names ways p) : nameOkS p.1 = true ∧ nameOkS p.2.1 = true := by
  rcases h with ⟨x, hx, rfl⟩ | ⟨y, hy, h1, h2, _⟩
  · exact ⟨wok.ok x hx, wok.ok x hx⟩
  · rw [h1, h2]
    exact ⟨(wok.way y hy).1, (wok.way y hy).2.1⟩
/-- the list found so far -/
structure DueSt (H0 H : Hp) (l : Addr) (zs : List Way) : Prop where
  same : Same H0 H
  fr : H0 l = none
  at_ : ∃ acc, H l = some (.lst acc) ∧ Ims H acc (zs.map wayD3)
theorem DueSt.on {H0 H H' : Hp} {l : Addr} {zs : List Way} (d : DueSt H0 H l zs) (s : Same H H') : DueSt H0 H' l zs := by
  obtain ⟨acc, h1, h2⟩ := d.at_
  exact ⟨d.same.trans s, d.fr, acc, s _ _ h1, h2.on (TS.same s)⟩
theorem due_app {H0 H : Hp} {l : Addr} {zs : List Way} {z : Way} {te : TE} {Dx : Ends} {σ : Slots} (d : DueSt H0 H l zs) (hl : zs.length ≤ 1000) (e2 : σ[2]? = some (some (.ref l)))
    (ht : ∀ Z : VK, (∀ c H', Same H H' → H' c = some (.tup (y3 z)) → Z (.ref c) H') → te σ H Z) (k : ∀ H', DueSt H0 H' l (zs ++ [z]) → Dx.nx σ H') : tDrop (tBM K "list" rAppend (tVar 2) (tCons te tNil)) Dx σ H := by
  obtain ⟨acc, h1, h2⟩ := d.at_
  refine ⟨_, e2, .inl ⟨rfl, _, SqL.of h1⟩, ht _ fun c H' s hc => ?_⟩
  have la : acc.length = zs.length := by rw [h2.length, List.length_map]
  refine ⟨l, acc, _, rfl, rfl, s _ _ h1, Nat.lt_of_lt_of_le (show acc.length < 2000 by omega) (by decide), k _ ⟨same_at (d.same.trans s) d.fr, d.fr, _, upd_same, ?_⟩⟩
  rw [List.map_append]
  have ts : TS H' (upd H' l (.lst (acc ++ [.ref c]))) := TS.lst (s _ _ h1)
  exact ((h2.on (TS.same s)).on ts).append (.cons ((way_im hc).on ts) .nil)
/-- the test for who stands at an end -/
theorem due_test {H0 H : Hp} {l : Addr} {zs : List Way} {p : Way} {u : V} {x : Str} {ia : Nat} {Dx : Ends} {σ : Slots} {B : L2.TS} (d : DueSt H0 H l zs) (hu : Im H0 u (wayD3 p)) (o1 : nameOkS p.1 = true) (o2 : nameOkS p.2.1 = true) (ox : nameOkS x = true)
    (e1 : σ[1]? = some (some u)) (ea : σ[ia]? = some (some (.str x))) (yes : p = personP x → ∀ H', DueSt H0 H' l zs → B Dx σ H') (no : p ≠ personP x → ∀ H', DueSt H0 H' l zs → Dx.nx σ H') :
    tIfS (tTest (tOp (rEqD K) (tVar 1) (tTup (tCons (tVar ia) (tCons (tVar ia) (tCons (tC (.int 0)) tNil)))))) B tNext Dx σ H := by
  refine ⟨_, e1, _, ea, _, ea, by show 3 ≤ sizeLine; decide, fun c nc => ?_⟩
  have s1 := same_new (o := .tup [.str x, .str x, .int 0]) nc
  have d1 := d.on s1
  refine ⟨wayD3 p, wayD3 (personP x), ((hu.on (TS.same d1.same)).dp), (way_im (y := personP x) upd_same).dp, shaped_place o1 o2, shaped_place ox ox, _, rfl, ?_⟩
  rw [eqv_place]
  by_cases e : p = personP x
  · rw [decide_eq_true e]
    exact iteT (yes e _ d1)
  · rw [decide_eq_false e]
    exact iteF (no e _ d1)
theorem dPair_eqv (a b c d : Str) : PyData.eqv (.tuple [.str a, .str b]) (.tuple [.str c, .str d]) = decide (a = c ∧ b = d) := by
  have h : PyData.eqv (.tuple [.str a, .str b]) (.tuple [.str c, .str d]) = (PyData.eqv (.str a) (.str c) && (PyData.eqv (.str b) (.str d) && true)) := rfl
  rw [h, eqv_str, eqv_str, Bool.and_true]
  by_cases h1 : a = c <;> by_cases h2 : b = d <;> simp [h1, h2]
theorem shaped_pair {a b : Str} (h1 : nameOkS a = true) (h2 : nameOkS b = true) : SeqAt.shaped (.tuple [.str a, .str b]) = true := by
  unfold SeqAt.shaped
  simp [PyData.canLay0, PyData.canLayAll0, name_strOk h1, name_strOk h2, PyData.depth, PyData.depthAll]
/-- the test for who stands on the way -/
theorem due_pair {H0 H : Hp} {l b : Addr} {zs : List Way} {p y : Way} {Dx : Ends} {σ : Slots} {B : L2.TS} (d : DueSt H0 H l zs) (hb : H0 b = some (.tup (y3 p))) (o1 : nameOkS p.1 = true) (o2 : nameOkS p.2.1 = true) (k1 : nameOkS y.1 = true) (k2 : nameOkS y.2.1 = true)
    (e1 : σ[1]? = some (some (.ref b))) (e3 : σ[3]? = some (some (.str y.1))) (e4 : σ[4]? = some (some (.str y.2.1))) (yes : p.1 = y.1 ∧ p.2.1 = y.2.1 → ∀ H', DueSt H0 H' l zs → B Dx σ H') (no : ¬ (p.1 = y.1 ∧ p.2.1 = y.2.1) → ∀ H', DueSt H0 H' l zs → Dx.nx σ H') :
    tIfS (tTest (tOp (rEqD K) (tSl (rSlT K) (tVar 1) tNoPart (tPart (tC (.int 2)))) (tTup (tCons (tVar 3) (tCons (tVar 4) tNil))))) B tNext Dx σ H := by
  refine ⟨_, e1, 2, rfl, b, y3 p, rfl, SqT.of (d.same _ _ hb), (fun z => ?_), fun c nc => ?_⟩
  · have := z.2
    cases this
  have s1 := same_new (o := .tup [.str p.1, .str p.2.1]) nc
  have d1 := d.on s1
  refine ⟨_, e3, _, e4, by show 2 ≤ sizeLine; decide, fun c2 nc2 => ?_⟩
  have s2 := same_new (o := .tup [.str y.1, .str y.2.1]) nc2
  have d2 := d1.on s2
  refine ⟨.tuple [.str p.1, .str p.2.1], .tuple [.str y.1, .str y.2.1], (Im.tup (s2 _ _ upd_same) (.cons (.str _) (.cons (.str _) .nil))).dp, (Im.tup upd_same (.cons (.str _) (.cons (.str _) .nil))).dp, ?_, ?_, _, rfl, ?_⟩
  · exact shaped_pair o1 o2
  · exact shaped_pair k1 k2
  rw [dPair_eqv]
  by_cases e : p.1 = y.1 ∧ p.2.1 = y.2.1
  · rw [decide_eq_true e]
    exact iteT (yes e _ d2)
  · rw [decide_eq_false e]
    exact iteF (no e _ d2)
theorem ok_due {f : Addr} {fd : FuncData} (F : Fun K "_law_due" "_law_due" sDue f fd) (mS : mg "sorted" = none) : FnOk P w K mg base CX0 1 f fd ["web", "place"] spDue := by
  refine F.ok scDue (fun vs H Q E h => ?_) (fun cdv A outer s H vs Q E hr h => ?_)
  · obtain ⟨T, u, names, ways, p, rfl, _⟩ := h
    rfl
  · obtain ⟨T, u, names, ways, p, rfl, ⟨Fa, W, ws, hT, hF, hW, hI⟩, hu, wok, pn, pok, q⟩ := h
    refine ⟨_, pss_cons (ps_set (i := 2) scDue.nd rfl (Or.inl rfl) (pe_lst pa_nil))
      (pss_cons (ps_for PassesOwn.never rfl (pi_list (pe_ix ix_tup (pv 0) pe_int (fun _ _ => rfl))) (pg_tup rfl (pgs_cons (pg_name (i := 3) scDue.nd rfl (Or.inl rfl)) (pgs_cons (pg_name (i := 4) scDue.nd rfl (Or.inl rfl)) (pgs_cons (pg_name (i := 5) scDue.nd rfl (Or.inl rfl)) pgs_nil))))
        (pss_cons (ps_if (pt_cmpR (op_eqD hr.units) (pv 1) (pe_tup (pa_cons (pv 3) (pa_cons (pv 3) (pa_cons pe_int pa_nil)))) (nomark _))
            (pss_one (ps_expr (pe_bm PySem.F.plainAttrs_list PySem.F.slot_list_append PySem.F.type_list_append mt_append (pv 2) (pa_cons (pe_ifExp (pt_cmpR op_gt (pv 5) pe_int (nomark _)) (pe_tup (pa_cons (pv 3) (pa_cons (pv 4) (pa_cons pe_int pa_nil)))) (pe_tup (pa_cons (pv 4) (pa_cons (pv 4) (pa_cons pe_int pa_nil))))) pa_nil)))) pss_nil)
        (pss_cons (ps_if (pt_cmpR (op_eqD hr.units) (pv 1) (pe_tup (pa_cons (pv 4) (pa_cons (pv 4) (pa_cons pe_int pa_nil)))) (nomark _))
            (pss_one (ps_expr (pe_bm PySem.F.plainAttrs_list PySem.F.slot_list_append PySem.F.type_list_append mt_append (pv 2) (pa_cons (pe_ifExp (pt_cmpR op_gt (pv 5) pe_int (nomark _)) (pe_tup (pa_cons (pv 3) (pa_cons (pv 4) (pa_cons (pe_op op_sub (pv 5) pe_int) pa_nil)))) (pe_tup (pa_cons (pv 3) (pa_cons (pv 3) (pa_cons pe_int pa_nil))))) pa_nil)))) pss_nil)
        (pss_one (ps_if (pt_cmpR (op_eqD hr.units) (pe_slice sl_tup (pv 1) po_none (po_some pe_int)) (pe_tup (pa_cons (pv 3) (pa_cons (pv 4) pa_nil))) (nomark _))
            (pss_cons (ps_expr (pe_bm PySem.F.plainAttrs_list PySem.F.slot_list_append PySem.F.type_list_append mt_append (pv 2) (pa_cons (pe_ifExp (pt_cmpR op_gt (pe_ix ix_tup (pv 1) pe_int (fun _ _ => rfl)) pe_int (nomark _)) (pe_tup (pa_cons (pv 3) (pa_cons (pv 4) (pa_cons (pe_op op_sub (pe_ix ix_tup (pv 1) pe_int (fun _ _ => rfl)) pe_int) pa_nil)))) (pe_tup (pa_cons (pv 3) (pa_cons (pv 3) (pa_cons pe_int pa_nil))))) pa_nil)))
            (pss_one (ps_expr (pe_bm PySem.F.plainAttrs_list PySem.F.slot_list_append PySem.F.type_list_append mt_append (pv 2) (pa_cons (pe_ifExp (pt_cmpR op_lt (pe_op op_add (pe_ix ix_tup (pv 1) pe_int (fun _ _ => rfl)) pe_int) (pv 5) (nomark _)) (pe_tup (pa_cons (pv 3) (pa_cons (pv 4) (pa_cons (pe_op op_add (pe_ix ix_tup (pv 1) pe_int (fun _ _ => rfl)) pe_int) pa_nil)))) (pe_tup (pa_cons (pv 4) (pa_cons (pv 4) (pa_cons pe_int pa_nil))))) pa_nil))))) pss_nil)))))
      (pss_one (ps_ret (pe_callB (cr_sortedD hr.units) (by rfl) mS (by decide +kernel) (pa_cons (pv 2) pa_nil))))), ?_⟩
    refine ⟨Nat.zero_le _, fun l nl => ?_⟩
    have lw := hI.length
    rw [List.length_map] at lw
    obtain ⟨o1, o2⟩ := placeV_names wok pok
    obtain ⟨b, rfl, hb⟩ := im_way hu
    have d0 : DueSt H (upd H l (.lst [])) l [] := ⟨same_new nl, nl, [], upd_same, .nil⟩
    refine ⟨_, rfl, T, _, 1, _, rfl, rfl, SqT.of (d0.same _ _ hT), atI_nat (j := 1) rfl, W, rfl, ⟨_, SqL.of (d0.same _ _ hW)⟩, ?_⟩
    refine for_it (walk_list (K := K) (a := W) (xs := ws)) (fun i σ H2 => ∃ (u3 u4 u5 : Option V), σ = [some (.ref T), some (.ref b), some (.ref l), u3, u4, u5] ∧ DueSt H H2 l (besideL (ways.take i) p))
      ⟨none, none, none, rfl, d0⟩ (fun i σ H2 _ ⟨_, _, _, _, d⟩ => d.same.seq (SqL.of hW)) ?_ ?_
    · rintro i x σ H3 H4 hi ⟨u3, u4, u5, rfl, d⟩ ⟨rfl, ex⟩
      obtain ⟨y, ey⟩ : ∃ y, ways[i]? = some y := ⟨_, List.getElem?_eq_getElem (by omega)⟩
      have hy := List.mem_of_getElem? ey
      obtain ⟨dd, ed, im⟩ := Ims.at hI ex
      rw [List.getElem?_map, ey] at ed
      cases ed
      obtain ⟨cy, rfl, hcy⟩ := im_way im
      obtain ⟨k1, k2, k3, k4, k5, k6, k7⟩ := wok.way y hy
      have ne := way_ne wok hy
      have few := wok.few
      have lz : (besideL (ways.take i) p).length ≤ 300 := by
        have := besideL_len p (ways.take i)
        rw [List.length_take] at this
        omega
      generalize hz : besideL (ways.take i) p = zs at d lz
      refine ⟨cy, _, rfl, SqT.of (d.same _ _ hcy), rfl, _, _, rfl, _, _, rfl, _, _, rfl, rfl, ?_⟩
      have fin : ∀ (r : List Way) (H5 : Hp), DueSt H H5 l (zs ++ r) → (numbersBeside y p).map (placeOn y) = r → ∃ (u3 u4 u5 : Option V), [some (V.ref T), some (.ref b), some (.ref l), some (.str y.1), some (.str y.2.1), some (.int y.2.2)] = [some (.ref T), some (.ref b), some (.ref l), u3, u4, u5] ∧ DueSt H H5 l (besideL (ways.take (i + 1)) p) := by
        intro r H5 d5 e
        refine ⟨_, _, _, rfl, ?_⟩
        rw [besideL_take p ey, hz, e]
        exact d5
      refine due_test d (way_im hb) o1 o2 k1 rfl (ia := 3) rfl (fun e1 H5 d5 => ?_) (fun e1 H5 d5 => ?_)
      · -- at one end
        refine due_app (z := placeOn y 1) d5 (by omega) rfl (fun Z hZ => ?_) fun H6 d6 => ?_
        · refine ⟨_, rfl, _, _, rfl, rfl, _, rfl, ?_⟩
          by_cases c : 1 < y.2.2
          · rw [decide_eq_true c]
            refine iteT ⟨_, rfl, _, rfl, by show 3 ≤ sizeLine; decide, fun c nc => hZ c _ (same_new nc) ?_⟩
            rw [upd_same, placeOn_m (by decide) (by omega)]
            rfl
          · rw [decide_eq_false c]
            refine iteF ⟨_, rfl, _, rfl, by show 3 ≤ sizeLine; decide, fun c nc => hZ c _ (same_new nc) ?_⟩
            rw [upd_same, placeOn_b (by decide) (by omega)]
            rfl
        · refine due_test d6 (way_im hb) o1 o2 k2 rfl (ia := 4) rfl (fun e2 => ?_) (fun e2 H7 d7 => ?_)
          · rw [e1] at e2
            exact absurd (congrArg Prod.fst e2) ne
          · refine due_pair (y := y) d7 hb o1 o2 k1 k2 rfl rfl rfl (fun e3 => ?_) (fun e3 H8 d8 => ?_)
            · rw [e1] at e3
              exact absurd e3.2 ne
            · refine fin [placeOn y 1] H8 d8 ?_
              unfold numbersBeside
              rw [if_pos e1]
              rfl
      · refine due_test d5 (way_im hb) o1 o2 k2 rfl (ia := 4) rfl (fun e2 H6 d6 => ?_) (fun e2 H6 d6 => ?_)
        · -- at the other
          refine due_app (z := placeOn y (y.2.2 - 1)) d6 (by omega) rfl (fun Z hZ => ?_) fun H7 d7 => ?_
          · refine ⟨_, rfl, _, _, rfl, rfl, _, rfl, ?_⟩
            by_cases c : 1 < y.2.2
            · rw [decide_eq_true c]
              refine iteT ⟨_, rfl, _, rfl, _, rfl, _, _, rfl, rfl, by show 3 ≤ sizeLine; decide, fun c nc => hZ c _ (same_new nc) ?_⟩
              rw [upd_same, placeOn_m (by omega) (by omega)]
              rfl
            · rw [decide_eq_false c]
              refine iteF ⟨_, rfl, _, rfl, by show 3 ≤ sizeLine; decide, fun c nc => hZ c _ (same_new nc) ?_⟩
              rw [upd_same, show y.2.2 - 1 = 0 by omega, placeOn_0]
              rfl
          · refine due_pair (y := y) d7 hb o1 o2 k1 k2 rfl rfl rfl (fun e3 => ?_) (fun e3 H8 d8 => ?_)
            · rw [e2] at e3
              exact absurd e3.1.symm ne
            · refine fin [placeOn y (y.2.2 - 1)] H8 d8 ?_
              unfold numbersBeside
              rw [if_neg e1, if_pos e2]
              rfl
        · refine due_pair (y := y) d6 hb o1 o2 k1 k2 rfl rfl rfl (fun e3 H7 d7 => ?_) (fun e3 H7 d7 => ?_)
          · -- on the way
            obtain ⟨p1, p2⟩ : 1 ≤ p.2.2 ∧ p.2.2 < y.2.2 := by
              rcases pok with ⟨x, _, rfl⟩ | ⟨z, hz, j1, j2, j3, j4⟩
              · exact absurd (e3.1.symm.trans e3.2) ne
              · have e := pairs_one pn hz hy (j1.symm.trans e3.1) (j2.symm.trans e3.2)
                rw [← e]
                exact ⟨j3, j4⟩
            refine due_app (z := placeOn y (p.2.2 - 1)) d7 (by omega) rfl (fun Z hZ => ?_) fun H8 d8 => ?_
            · refine ⟨_, rfl, b, _, 2, _, rfl, rfl, SqT.of (d7.same _ _ hb), atI_nat (j := 2) rfl, _, _, rfl, rfl, _, rfl, ?_⟩
              by_cases c : 1 < p.2.2
              · rw [decide_eq_true c]
                refine iteT ⟨_, rfl, _, rfl, _, rfl, b, _, 2, _, rfl, rfl, SqT.of (d7.same _ _ hb), atI_nat (j := 2) rfl, _, _, rfl, rfl, by show 3 ≤ sizeLine; decide, fun c nc => hZ c _ (same_new nc) ?_⟩
                rw [upd_same, placeOn_m (by omega) (by omega)]
                rfl
              · rw [decide_eq_false c]
                refine iteF ⟨_, rfl, _, rfl, by show 3 ≤ sizeLine; decide, fun c nc => hZ c _ (same_new nc) ?_⟩
                rw [upd_same, show p.2.2 - 1 = 0 by omega, placeOn_0]
                rfl
            · refine due_app (z := placeOn y (p.2.2 + 1)) d8 (by rw [List.length_append]; show zs.length + 1 ≤ 1000; omega) rfl (fun Z hZ => ?_) fun H9 d9 => ?_
              · refine ⟨_, rfl, b, _, 2, _, rfl, rfl, SqT.of (d8.same _ _ hb), atI_nat (j := 2) rfl, _, _, rfl, rfl, _, rfl, _, _, rfl, rfl, _, rfl, ?_⟩
                by_cases c : p.2.2 + 1 < y.2.2
                · rw [decide_eq_true c]
                  refine iteT ⟨_, rfl, _, rfl, _, rfl, b, _, 2, _, rfl, rfl, SqT.of (d8.same _ _ hb), atI_nat (j := 2) rfl, _, _, rfl, rfl, by show 3 ≤ sizeLine; decide, fun c nc => hZ c _ (same_new nc) ?_⟩
                  rw [upd_same, placeOn_m (by omega) (by omega)]
                  rfl
                · rw [decide_eq_false c]
                  refine iteF ⟨_, rfl, _, rfl, by show 3 ≤ sizeLine; decide, fun c nc => hZ c _ (same_new nc) ?_⟩
                  rw [upd_same, placeOn_b (by omega) (by omega)]
                  rfl
              · refine fin [placeOn y (p.2.2 - 1), placeOn y (p.2.2 + 1)] H9 (by rw [List.append_assoc] at d9; exact d9) ?_
                unfold numbersBeside
                rw [if_neg e1, if_neg e2, if_pos e3]
                rfl
          · refine fin [] H7 (by rw [List.append_nil]; exact d7) ?_
            unfold numbersBeside
            rw [if_neg e1, if_neg e2, if_neg e3]
            rfl
    · rintro σ H3 ⟨u3, u4, u5, rfl, d⟩
      rw [lw, List.take_length] at d
      obtain ⟨acc, h1, im⟩ := d.at_
      have hl := im.length
      rw [List.length_map] at hl
      have hb : (besideL ways p).length ≤ 300 := by
        have := besideL_len p ways
        have := wok.few
        omega
      have ef : (acc.zip ((besideL ways p).map wayD3)).map Prod.fst = acc := List.map_fst_zip (by rw [List.length_map]; omega)
      have es : (acc.zip ((besideL ways p).map wayD3)).map Prod.snd = (besideL ways p).map wayD3 := List.map_snd_zip (by rw [List.length_map]; omega)
      refine ⟨_, rfl, l, acc.zip ((besideL ways p).map wayD3), rfl, by rw [ef]; exact SqL.of h1, im.pairs, by rw [es]; exact places_alike _, by rw [es]; exact places_sortable _, fun b hb' => ?_, fun r nr => ?_⟩
      · have : b.2 ∈ (besideL ways p).map wayD3 := by
          rw [← es]
          exact List.mem_map.mpr ⟨b, hb', rfl⟩
        obtain ⟨y, _, e⟩ := List.mem_map.mp this
        rw [← e]
        exact place_depth y
      · exact q r _ _ (d.same.trans (same_new nr)) (d.same.free nr) upd_same ((sorted_ims im).on (TS.new nr))
end
end Cry
namespace Cry
open PySem PySem.Spec PyProof.Rows L2
/-! `_law_spots`: places on the ways. -/
section
variable {P : Program} {w : World} {K : PySem.W.Frag} {mg : Str → Option Value} {base : Heap}
abbrev nSpots : List Str := ["bag", "web", "found", "one", "other", "beats", "some", "at"]
theorem scSpots : FnScope nSpots ["bag", "web"] (defScope sSpots) := ⟨rfl, rfl, rfl, by decide +kernel, rfl, by decide +kernel, by decide +kernel⟩
def spSpots : Sp := fun vs H Q _ => ∃ (a c T : Addr) (n : Nat) (names : List Str) (ways : List Way), vs = [.ref a, .ref T] ∧ BagAt H a c n ∧ n + 200 < 10000000 ∧ WebAt H T names ways ∧ WebOk names ways ∧ ways.length ≤ 101 ∧
  ∀ (l : Addr) (us : List V) (ps : List Way) (H' : Hp), H l = none → SameO a H H' → H' l = some (.lst us) → Ims H' us (ps.map wayD3) → (∀ p ∈ ps, PlaceV names ways p) → ps.length ≤ 600 → BagAt H' a c (n + 200) → Q (.ref l) H'
theorem ok_spots {f f1 : Addr} {fd fd1 : FuncData} (F : Fun K "_law_spots" "_law_spots" sSpots f fd) (mS : mg "sorted" = none) (mT : mg "set" = none) (D1 : Def K mg "_law_draw" f1 fd1 ["bag", "many"]) (G1 : FnOk P w K mg base CX0 2 f1 fd1 ["bag", "many"] spDraw) : FnOk P w K mg base CX0 3 f fd ["bag", "web"] spSpots := by
  refine F.ok scSpots (fun vs H Q E h => ?_) (fun cdv A outer s H vs Q E hr h => ?_)
  · obtain ⟨a, c, T, n, names, ways, rfl, _⟩ := h
    rfl
  · obtain ⟨a, c, T, n, names, ways, rfl, hB, nn, hw, wok, wl, q⟩ := h
    obtain ⟨Fa, W, ws, hT, hF, hW, hi, wna, nT, nF, nW⟩ := hw.apart hB
    obtain ⟨F2, W2, ws2, hT2, hF2, hW2, hI⟩ := hw
    cases hT.symm.trans hT2
    cases hW.symm.trans hW2
    refine ⟨_, pss_cons (ps_set (i := 2) scSpots.nd rfl (Or.inl rfl) (pe_lst pa_nil))
      (pss_cons (ps_for PassesOwn.never rfl (pi_list (pe_ix ix_tup (pv 1) pe_int (fun _ _ => rfl))) (pg_tup rfl (pgs_cons (pg_name (i := 3) scSpots.nd rfl (Or.inr rfl)) (pgs_cons (pg_name (i := 4) scSpots.nd rfl (Or.inr rfl)) (pgs_cons (pg_name (i := 5) scSpots.nd rfl (Or.inr rfl)) pgs_nil))))
        (pss_cons (ps_set (i := 6) scSpots.nd rfl (Or.inl rfl) (pe_lst (pa_cons pe_int (pa_cons (pe_op op_sub (pv 5) pe_int) (pa_cons (pe_op op_fdiv (pv 5) pe_int) (pa_cons (pe_op op_add pe_int (pe_call G1 hr (by rfl) D1.at_ D1.kp D1.b .nil pass0 (pa_cons (pv 0) (pa_cons (pv 5) pa_nil)))) (pa_cons pe_int pa_nil)))))))
        (pss_one (ps_expr (pe_bm PySem.F.plainAttrs_list PySem.F.slot_list_extend PySem.F.type_list_extend mt_extend (pv 2) (pa_cons (pe_lc (own := [("at", 7)]) (g := gName 7)
            (tt := tTest (tChain (rI0 fun i j => .bl (decide (i < j))) (rI0 fun i j => .bl (decide (i < j))) (tC (.int 0)) (tVar 7) (tVar 5))) (te := tTup (tCons (tVar 3) (tCons (tVar 4) (tCons (tVar 7) tNil)))) rfl scSpots.nd
            (pi_list (pe_callB (cr_sortedK rfl hr.units) (by rfl) mS (by decide +kernel) (pa_cons (pe_callTy (cr_setK rfl) (by rfl) mT (by decide +kernel) (pa_cons (pv 6) pa_nil)) pa_nil)))
            (blkOk_by (N := nSpots) (sc := defScope sSpots) (by decide +kernel)) (fun _ _ _ _ _ => pg_name (i := 7) scSpots.nd rfl (Or.inl rfl)) (fun _ _ _ _ _ => pts_one (pt_chain op_lt op_lt pe_int (pv 7) (pv 5)))
            (fun _ _ _ _ _ => pe_tup (pa_cons (pv 3) (pa_cons (pv 4) (pa_cons (pv 7) pa_nil))))) pa_nil))))))
      (pss_one (ps_ret (pv 2)))), ?_⟩
    refine ⟨Nat.zero_le _, fun l nl => ?_⟩
    have nla := hB.neA nl
    have nlc := hB.neC nl
    have lw := hi.1
    have hW' : (upd H l (.lst [])) W = some (.lst ws) := same_new nl _ _ hW
    refine ⟨_, rfl, T, _, 1, _, rfl, rfl, SqT.of (same_new nl _ _ hT), atI_nat (j := 1) rfl, W, rfl, ⟨_, SqL.of hW'⟩, ?_⟩
    refine for_it (walk_list (K := K) (a := W) (xs := ws)) (fun i σ H2 => ∃ (u3 u4 u5 u6 : Option V) (acc : List V) (ps : List Way), σ = [some (.ref a), some (.ref T), some (.ref l), u3, u4, u5, u6, none] ∧ H2 l = some (.lst acc) ∧ Ims H2 acc (ps.map wayD3) ∧ (∀ p ∈ ps, PlaceV names ways p) ∧ ps.length ≤ 5 * i ∧ SameO a H H2 ∧ BagAt H2 a c (n + i))
      ⟨none, none, none, none, [], [], rfl, upd_same, .nil, fun p hp => by simp at hp, by simp, sameO_new (fun _ _ _ e => e) nl, hB.new nl⟩ (fun i σ H2 _ ⟨_, _, _, _, _, _, _, _, _, _, _, so, _⟩ => SqL.of (so _ _ nW hW)) ?_ ?_
    · rintro i x σ H3 H4 hi' ⟨u3, u4, u5, u6, acc, ps, rfl, hl, im, pv, pl, so, B⟩ ⟨rfl, ex⟩
      obtain ⟨y, ey⟩ : ∃ y, ways[i]? = some y := ⟨_, List.getElem?_eq_getElem (by omega)⟩
      have hy := List.mem_of_getElem? ey
      obtain ⟨k1, k2, k3, k4, k5, k6, k7⟩ := wok.way y hy
      obtain ⟨dd, ed, imy⟩ := Ims.at hI ex
      rw [List.getElem?_map, ey] at ed
      cases ed
      obtain ⟨cy, rfl, hcy⟩ := im_way imy
      obtain ⟨cy', e', ncy⟩ := wna _ (List.mem_of_getElem? ex)
      cases e'
      refine ⟨cy, _, rfl, SqT.of (so _ _ ncy hcy), rfl, _, _, rfl, _, _, rfl, _, _, rfl, rfl, ?_⟩
      refine ⟨_, rfl, _, _, rfl, rfl, _, rfl, _, _, rfl, rfl, ⟨by decide, by decide⟩, _, rfl, _, rfl, a, c, y.2.2, n + i, rfl, B, by omega, k3, k4, fun r H5 r0 r1 so5 B5 => ⟨_, _, rfl, rfl, by show 5 ≤ sizeLine; decide, fun S nS => ?_⟩⟩
      have hl5 := so5 _ _ nla hl
      have im5 : Ims H5 acc (ps.map wayD3) := im.on (TS.sameO so5 fun xs e => by
        obtain ⟨z, hz⟩ := B.lst
        rw [hz] at e
        cases e)
      have sS := same_new (o := .lst [.int 1, .int (y.2.2 - 1), .int (y.2.2 / 2), .int (1 + r), .int 2]) nS
      refine ⟨_, rfl, .inl ⟨rfl, _, SqL.of (sS _ _ hl5)⟩, ?_⟩
      refine ⟨_, rfl, S, [Sum.inl 1, Sum.inl (y.2.2 - 1), Sum.inl (y.2.2 / 2), Sum.inl (1 + r), Sum.inl 2], rfl, .inl (SqL.of upd_same), by show 5 + 1 < scanBound; decide, fun p1 np1 => ?_⟩
      generalize hks : ([Sum.inl 1, Sum.inl (y.2.2 - 1), Sum.inl (y.2.2 / 2), Sum.inl (1 + r), Sum.inl 2] : List Key) = ks at np1 ⊢
      have kint : ∀ k ∈ dedK ks, ∃ z, k = Sum.inl z := fun k hk => by
        have hk := dedK_mem.mp hk
        rw [← hks] at hk
        simp only [List.mem_cons, List.not_mem_nil, or_false] at hk
        rcases hk with rfl | rfl | rfl | rfl | rfl <;> exact ⟨_, rfl⟩
      have klen : (dedK ks).length ≤ 5 := by
        have := dedK_len ks
        rw [← hks] at this ⊢
        exact this
      have s1 := same_new (o := KO w p1 (dedK ks)) np1
      refine ⟨p1, dedK ks, rfl, upd_same, .inl kint, fun ls p2 pm pw np2 => ?_⟩
      have s2 := same_new (o := .lst (ls.map kV)) np2
      have s02 := (sS.trans s1).trans s2
      have lsl : ls.length ≤ 5 := by
        rw [pm.length_eq]
        exact klen
      refine ⟨p2, rfl, ⟨_, SqL.of upd_same⟩, fun D nD => ?_⟩
      have B6 : BagAt (upd (upd (upd H5 S (.lst [.int 1, .int (y.2.2 - 1), .int (y.2.2 / 2), .int (1 + r), .int 2])) p1 (KO w p1 (dedK ks))) p2 (.lst (ls.map kV))) a c (n + i + 1) := B5.on s02
      have hl6 : (upd (upd (upd H5 S (.lst [.int 1, .int (y.2.2 - 1), .int (y.2.2 / 2), .int (1 + r), .int 2])) p1 (KO w p1 (dedK ks))) p2 (.lst (ls.map kV))) l = some (.lst acc) := s02 _ _ hl5
      have im6 : Ims (upd (upd (upd H5 S (.lst [.int 1, .int (y.2.2 - 1), .int (y.2.2 / 2), .int (1 + r), .int 2])) p1 (KO w p1 (dedK ks))) p2 (.lst (ls.map kV))) acc (ps.map wayD3) := im5.on (TS.same s02)
      have so6 : SameO a H (upd (upd (upd H5 S (.lst [.int 1, .int (y.2.2 - 1), .int (y.2.2 / 2), .int (1 + r), .int 2])) p1 (KO w p1 (dedK ks))) p2 (.lst (ls.map kV))) := (so.trans so5).trans (SameO.of s02)
      have hp2 : (upd (upd (upd H5 S (.lst [.int 1, .int (y.2.2 - 1), .int (y.2.2 / 2), .int (1 + r), .int 2])) p1 (KO w p1 (dedK ks))) p2 (.lst (ls.map kV))) p2 = some (.lst (ls.map kV)) := upd_same
      replace nD : (upd (upd (upd H5 S (.lst [.int 1, .int (y.2.2 - 1), .int (y.2.2 / 2), .int (1 + r), .int 2])) p1 (KO w p1 (dedK ks))) p2 (.lst (ls.map kV))) D = none := nD
      show ∃ W : Nat → Nat → Hp → Prop, (∃ m, W 0 m (upd (upd (upd (upd H5 S (.lst [.int 1, .int (y.2.2 - 1), .int (y.2.2 / 2), .int (1 + r), .int 2])) p1 (KO w p1 (dedK ks))) p2 (.lst (ls.map kV))) D (.lst []))) ∧ _
      generalize (upd (upd (upd H5 S (.lst [.int 1, .int (y.2.2 - 1), .int (y.2.2 / 2), .int (1 + r), .int 2])) p1 (KO w p1 (dedK ks))) p2 (.lst (ls.map kV))) = H6 at nD B6 hl6 im6 so6 hp2 ⊢
      refine lc_it (walk_list (K := K) (a := p2) (xs := ls.map kV)) (fun j H' => Same H6 H' ∧ ∃ bcc qs, H' D = some (.lst bcc) ∧ Ims H' bcc (qs.map wayD3) ∧ (∀ p ∈ qs, PlaceV names ways p) ∧ qs.length ≤ j)
        ⟨same_new nD, [], [], upd_same, .nil, fun p hp => by simp at hp, Nat.le_refl _⟩ (fun j H' _ g => g.1.seq (SqL.of hp2)) (fun j v H7 H8 hj g hv => ?_) (fun H7 g => ?_)
      · obtain ⟨s7, bcc, qs, hD, imq, pq, lq⟩ := g
        obtain ⟨rfl, ev⟩ := hv
        rw [List.length_map] at hj
        rw [List.getElem?_map, List.getElem?_eq_getElem hj] at ev
        cases ev
        obtain ⟨z, ez⟩ := kint _ (pm.mem_iff.mp (List.getElem_mem hj))
        rw [ez]
        refine ⟨rfl, ⟨_, rfl, _, _, rfl, rfl, _, rfl, ?_⟩⟩
        by_cases z0 : 0 < z
        · rw [decide_eq_true z0]
          refine iteT ⟨_, rfl, _, _, rfl, rfl, _, rfl, ?_⟩
          by_cases z1 : z < y.2.2
          · rw [decide_eq_true z1]
            refine iteT ⟨_, rfl, _, rfl, _, rfl, by show 3 ≤ sizeLine; decide, fun cc ncc => ?_⟩
            have sc := same_new (o := .tup [.str y.1, .str y.2.1, .int z]) ncc
            have lb : bcc.length = qs.length := by rw [imq.length, List.length_map]
            refine ⟨bcc, sc _ _ hD, Nat.lt_of_le_of_lt (show bcc.length ≤ 100 by omega) (by decide), same_at (s7.trans sc) nD, bcc ++ [.ref cc], qs ++ [(y.1, y.2.1, z)], upd_same, ?_, fun p hp => ?_, by rw [List.length_append]; exact Nat.succ_le_succ lq⟩
            · rw [List.map_append]
              have ts : TS (upd H8 cc (.tup [.str y.1, .str y.2.1, .int z])) (upd (upd H8 cc (.tup [.str y.1, .str y.2.1, .int z])) D (.lst (bcc ++ [.ref cc]))) := TS.lst (sc _ _ hD)
              exact ((imq.on (TS.same sc)).on ts).append (.cons ((way_im (y := (y.1, y.2.1, z)) upd_same).on ts) .nil)
            · rcases List.mem_append.mp hp with hp | hp
              · exact pq p hp
              · rw [List.mem_singleton.mp hp]
                exact .inr ⟨y, hy, rfl, rfl, z0, z1⟩
          · rw [decide_eq_false z1]
            exact iteF ⟨s7, bcc, qs, hD, imq, pq, Nat.le_succ_of_le lq⟩
        · rw [decide_eq_false z0]
          exact iteF ⟨_, rfl, iteF ⟨s7, bcc, qs, hD, imq, pq, Nat.le_succ_of_le lq⟩⟩
      · obtain ⟨s7, bcc, qs, hD, imq, pq, lq⟩ := g
        rw [List.length_map] at lq
        have hl7 := s7 _ _ hl6
        have la : acc.length = ps.length := by rw [im6.length, List.length_map]
        have lb : bcc.length = qs.length := by rw [imq.length, List.length_map]
        have ts : TS H7 (upd H7 l (.lst (acc ++ bcc))) := TS.lst hl7
        have B7 := B6.on s7
        refine ⟨l, D, _, _, rfl, rfl, hl7, hD, Nat.le_trans (show acc.length + bcc.length ≤ 2000 by omega) (by decide), _, _, _, _, acc ++ bcc, ps ++ qs, rfl, upd_same, ?_, fun p hp => ?_, by rw [List.length_append]; omega, sameO_new (so6.trans (SameO.of s7)) nl, (B7.up nla nlc).more (by omega)⟩
        · rw [List.map_append]
          exact ((im6.on (TS.same s7)).on ts).append (imq.on ts)
        · rcases List.mem_append.mp hp with hp | hp
          · exact pv p hp
          · exact pq p hp
    · rintro σ H3 ⟨u3, u4, u5, u6, acc, ps, rfl, hl, im, pv, pl, so, B⟩
      exact ⟨_, rfl, q l acc ps H3 nl so hl im pv (by omega) (B.more (by omega))⟩
end
end Cry
namespace Cry
open PySem PySem.Spec PyProof.Rows L2
/-! `_law_star`. -/
def starRow (s : Nat) : List Str := ("klmnopqrst" : Str).cps.toList.map fun o => ((⟨#[s]⟩ : Str) ++ ⟨#[o]⟩)
def starF : List Str := ("abcdef" : Str).cps.toList.flatMap starRow
theorem starF_pw : starF.Pairwise fun x y => ltS x y = true := by decide +kernel
theorem starF_ok : ∀ x ∈ starF, nameOkS x = true := by decide +kernel
theorem starF_len : starF.length = 60 := by decide +kernel
theorem pw_rise {ls : List Str} (h : ls.Pairwise fun x y => ltS x y = true) : risingD (ls.map PyData.str) = true := by
  refine rising_of (List.pairwise_map.mpr (h.imp fun {a b} k => ?_))
  rw [PySem.W.dataLt_str]
  exact k
theorem lt_ne {x y : Str} (h : ltS x y = true) : x ≠ y := by
  rintro rfl
  exact List.lt_irrefl _ (of_decide_eq_true h)
theorem starF_nd : starF.Nodup := starF_pw.imp fun {a b} k => lt_ne k
theorem inNames_of {x : Str} {names : List Str} (hx : x ∈ names) : inNames x names = true := by
  unfold inNames inV
  refine List.any_eq_true.mpr ⟨.str x, List.mem_map.mpr ⟨x, hx, rfl⟩, ?_⟩
  show decide (x = x) = true
  exact decide_eq_true rfl
theorem w3Lt (a b : Way) (h : (a.1, a.2.1) ≠ (b.1, b.2.1)) : PySem.W.dataLt (wayD3 a) (wayD3 b) = PySem.W.dataLt (pairD a) (pairD b) := by
  have e : PySem.W.dataLt (pairD a) (pairD b) = if a.1 = b.1 then PySem.W.dataLt (.str a.2.1) (.str b.2.1) else PySem.W.dataLt (.str a.1) (.str b.1) := pLt (a.1, a.2.1) (b.1, b.2.1)
  rw [e]
  unfold wayD3
  rw [PySem.W.dataLt_tuple, PySem.W.dataLt_cons rfl, PySem.W.dataLt_cons rfl, eqv_str, eqv_str]
  by_cases h1 : a.1 = b.1
  · have h2 : a.2.1 ≠ b.2.1 := fun z => h (Prod.ext h1 z)
    rw [if_pos (decide_eq_true h1), if_pos h1, if_neg (by rw [decide_eq_false h2]; decide)]
  · rw [if_neg (by rw [decide_eq_false h1]; decide), if_neg h1]
theorem star_rise {zs : List Way} (nd : PairsNd zs) : risingD ((sortB wayD3 zs).map pairD) = true := by
  have nd2 : PairsNd (sortB wayD3 zs) := ((sortB_perm wayD3 zs).map _).nodup_iff.mpr nd
  have so : (sortB wayD3 zs).Pairwise fun x y => PySem.W.dataLe false wayD3 x y = true := PySem.W.sort_pairwise (PySem.W.sortLe_total _ _ _) _
  refine rising_of (List.pairwise_map.mpr ?_)
  have nd3 : (sortB wayD3 zs).Pairwise fun a b => (a.1, a.2.1) ≠ (b.1, b.2.1) := List.pairwise_map.mp nd2
  rw [PySem.W.dataLe_eq] at so
  refine (so.and nd3).imp fun {a b} hh => ?_
  have h1 : PySem.W.dataLt (wayD3 b) (wayD3 a) = false := by
    have := hh.1
    simpa using this
  rw [w3Lt _ _ (Ne.symm hh.2)] at h1
  exact ord_pair.tri (a.1, a.2.1) (b.1, b.2.1) hh.2 h1
def starPair (one o : Str) : Str × Str := (minS one o, maxS one o)
theorem starPair_cases (one o : Str) : starPair one o = (one, o) ∧ (one = o ∨ ltS one o = true) ∨ starPair one o = (o, one) ∧ ltS o one = true := by
  unfold starPair minS maxS ltS
  by_cases h : one.cps.toList < o.cps.toList
  · rw [if_neg (fun z => List.lt_irrefl _ (List.lt_trans h z)), if_pos h]
    exact .inl ⟨rfl, .inr (decide_eq_true h)⟩
  · by_cases h2 : o.cps.toList < one.cps.toList
    · rw [if_pos h2, if_neg h]
      exact .inr ⟨rfl, decide_eq_true h2⟩
    · rw [if_neg h2, if_neg h]
      have e : one = o := str_ext (List.le_antisymm (List.not_lt.mp h2) (List.not_lt.mp h))
      exact .inl ⟨by rw [e], .inl e⟩
theorem starPair_inj {one o o' : Str} (n : o ≠ one) (n' : o' ≠ one) (h : starPair one o = starPair one o') : o = o' := by
  rcases starPair_cases one o with ⟨e, _⟩ | ⟨e, _⟩ <;> rcases starPair_cases one o' with ⟨e', _⟩ | ⟨e', _⟩ <;> rw [e, e'] at h
  · exact congrArg Prod.snd h
  · exact absurd (congrArg Prod.fst h).symm n'
  · exact absurd (congrArg Prod.fst h) n
  · exact congrArg Prod.fst h
/-- the ways of a star, whatever their beats -/
structure StarOk (one : Str) (zs : List Way) (k : Nat) : Prop where
  pairs : zs.map (fun y => (y.1, y.2.1)) = ((starF.take k).filter fun o => decide (o ≠ one)).map (starPair one)
  beats : ∀ y ∈ zs, 1 ≤ y.2.2 ∧ y.2.2 ≤ 1000000000000
theorem StarOk.len {one : Str} {zs : List Way} {k : Nat} (h : StarOk one zs k) : zs.length ≤ k := by
  have := congrArg List.length h.pairs
  rw [List.length_map, List.length_map] at this
  rw [this]
  refine Nat.le_trans (List.length_filter_le _ _) ?_
  rw [List.length_take]
  omega
theorem StarOk.web {one : Str} {zs : List Way} (h1 : one ∈ starF) (h : StarOk one zs 60) : WebOk starF (sortB wayD3 zs) ∧ PairsNd (sortB wayD3 zs) := by
  have hp := h.pairs
  rw [List.take_of_length_le (by rw [starF_len]; exact Nat.le_refl _)] at hp
  have nd : PairsNd zs := by
    unfold PairsNd
    rw [hp]
    refine List.pairwise_map.mpr (List.Pairwise.imp_of_mem ?_ (starF_nd.filter _))
    intro a b ha hb n e
    have ha' := (List.mem_filter.mp ha).2
    have hb' := (List.mem_filter.mp hb).2
    exact n (starPair_inj (of_decide_eq_true ha') (of_decide_eq_true hb') e)
  refine ⟨⟨starF_ok, by rw [starF_len]; decide, by rw [starF_len]; exact Nat.le_refl _, pw_rise starF_pw, ?_, fun y hy => ?_, star_rise nd⟩, ((sortB_perm wayD3 zs).map _).nodup_iff.mpr nd⟩
  · rw [(sortB_perm wayD3 zs).length_eq]
    have := h.len
    omega
  · have hy := (sortB_perm wayD3 zs).mem_iff.mp hy
    have mp : (y.1, y.2.1) ∈ (starF.filter fun o => decide (o ≠ one)).map (starPair one) := by
      rw [← hp]
      exact List.mem_map.mpr ⟨y, hy, rfl⟩
    obtain ⟨o, ho, eo⟩ := List.mem_map.mp mp
    obtain ⟨ho1, ho2⟩ := List.mem_filter.mp ho
    have ne : o ≠ one := of_decide_eq_true ho2
    have b := h.beats y hy
    rcases starPair_cases one o with ⟨e, k | k⟩ | ⟨e, k⟩
    · exact absurd k.symm ne
    · rw [e] at eo
      have a1 : one = y.1 := congrArg Prod.fst eo
      have a2 : o = y.2.1 := congrArg Prod.snd eo
      rw [← a1, ← a2]
      exact ⟨starF_ok _ h1, starF_ok _ ho1, b.1, b.2, inNames_of h1, inNames_of ho1, k⟩
    · rw [e] at eo
      have a1 : o = y.1 := congrArg Prod.fst eo
      have a2 : one = y.2.1 := congrArg Prod.snd eo
      rw [← a1, ← a2]
      exact ⟨starF_ok _ ho1, starF_ok _ h1, b.1, b.2, inNames_of ho1, inNames_of h1, k⟩
section
variable {P : Program} {w : World} {K : PySem.W.Frag} {mg : Str → Option Value} {base : Heap}
abbrev nStar : List Str := ["bag", "folk", "sign", "one", "ways", "other"]
theorem scStar : FnScope nStar ["bag"] (defScope sStar) := ⟨rfl, rfl, rfl, by decide +kernel, rfl, by decide +kernel, by decide +kernel⟩
def spStar : Sp := fun vs H Q _ => ∃ (a c : Addr) (n : Nat), vs = [.ref a] ∧ BagAt H a c n ∧ n + 1000 < 10000000 ∧ ∀ (T : Addr) (names : List Str) (ways : List Way) (H' : Hp), H T = none → SameO a H H' → WebAt H' T names ways → WebOk names ways → PairsNd ways → ways.length ≤ 101 → BagAt H' a c (n + 1000) → Q (.ref T) H'
theorem ok_star {f f1 f3 : Addr} {fd fd1 fd3 : FuncData} (F : Fun K "_law_star" "_law_star" sStar f fd) (mS : mg "sorted" = none) (mM : mg "min" = none) (mX : mg "max" = none) (D1 : Def K mg "_law_draw" f1 fd1 ["bag", "many"]) (G1 : FnOk P w K mg base CX0 2 f1 fd1 ["bag", "many"] spDraw)
    (D3 : Def K mg "_law_beats" f3 fd3 ["bag", "near"]) (G3 : FnOk P w K mg base CX0 3 f3 fd3 ["bag", "near"] spBeats) : FnOk P w K mg base CX0 4 f fd ["bag"] spStar := by
  refine F.ok scStar (fun vs H Q E h => ?_) (fun cdv A outer s H vs Q E hr h => ?_)
  · obtain ⟨a, c, n, rfl, _⟩ := h
    rfl
  · obtain ⟨a, c, n, rfl, hB, nn, q⟩ := h
    have hr2 := hr.mono (show 2 ≤ 3 by decide)
    refine ⟨_, pss_cons (ps_set (i := 1) scStar.nd rfl (Or.inl rfl) (pe_lst pa_nil))
      (pss_cons (ps_for PassesOwn.never rfl (pi_str pe_str) (pg_name (i := 2) scStar.nd rfl (Or.inr rfl))
        (pss_one (ps_expr (pe_bm PySem.F.plainAttrs_list PySem.F.slot_list_extend PySem.F.type_list_extend mt_extend (pv 1) (pa_cons (pe_lc (own := [("other", 5)]) (g := gName 5) (tt := tYes)
            (te := tOp (fun x y H Q => ∃ i j, x = .str i ∧ y = .str j ∧ i.length + j.length ≤ sizeLine ∧ Q (.str (i ++ j)) H) (tVar 2) (tVar 5)) rfl scStar.nd (pi_str pe_str) (blkOk_by (N := nStar) (sc := defScope sStar) (by decide +kernel))
            (fun _ _ _ _ _ => pg_name (i := 5) scStar.nd rfl (Or.inl rfl)) (fun _ _ _ _ _ => pts_nil) (fun _ _ _ _ _ => pe_op op_add_str (pv 2) (pv 5))) pa_nil)))))
      (pss_cons (ps_set (i := 3) scStar.nd rfl (Or.inr rfl) (pe_ix ix_list (pv 1) (pe_call G1 hr2 (by rfl) D1.at_ D1.kp D1.b .nil pass0 (pa_cons (pv 0) (pa_cons pe_int pa_nil))) (fun _ _ => rfl)))
      (pss_cons (ps_setLc (i := 4) (own := [("other", 5)]) (g := gName 5) (tt := tTest (tOp rNe (tVar 5) (tVar 3)))
          (te := tTup (tCons (tCB (rTwoS minS) (tCons (tVar 3) (tCons (tVar 5) tNil))) (tCons (tCB (rTwoS maxS) (tCons (tVar 3) (tCons (tVar 5) tNil))) (tCons (tCall spBeats [] (fun _ _ _ => False) (tCons (tVar 0) (tCons (tC (.bl false)) tNil))) tNil)))) (by rfl) scStar.nd rfl rfl (sw_true rfl rfl rfl (by decide +kernel))
          (pi_list (pv 1)) (blkOk_by (N := nStar) (sc := defScope sStar) (by decide +kernel))
          (fun _ _ _ _ _ => pg_name (i := 5) scStar.nd rfl (Or.inl rfl)) (fun _ _ _ _ _ => pts_one (pt_cmpR op_ne (pv 5) (pv 3) (nomark _)))
          (fun _ _ _ _ _ => pe_tup (pa_cons (pe_callB (cr_minS rfl) (by rfl) mM (by decide +kernel) (pa_cons (pv 3) (pa_cons (pv 5) pa_nil))) (pa_cons (pe_callB (cr_maxS rfl) (by rfl) mX (by decide +kernel) (pa_cons (pv 3) (pa_cons (pv 5) pa_nil))) (pa_cons (pe_call G3 hr (by rfl) D3.at_ D3.kp D3.b .nil pass0 (pa_cons (pv 0) (pa_cons pe_bl pa_nil))) pa_nil)))))
      (pss_one (ps_ret (pe_tup (pa_cons (pv 1) (pa_cons (pe_callB (cr_sortedD hr.units) (by rfl) mS (by decide +kernel) (pa_cons (pv 4) pa_nil)) pa_nil)))))))), ?_⟩
    refine ⟨Nat.zero_le _, fun l nl => ?_⟩
    have nla := hB.neA nl
    refine ⟨_, rfl, ?_⟩
    refine for_it (walk_str (z := "abcdef")) (fun i σ H2 => ∃ u2, σ = [some (.ref a), some (.ref l), u2, none, none, none] ∧ Same H H2 ∧ H2 l = some (.lst (((("abcdef" : Str).cps.toList.take i).flatMap starRow).map V.str)))
      ⟨none, rfl, same_new nl, upd_same⟩ (fun _ _ _ _ _ => True.intro) ?_ ?_
    · rintro i x σ H2 H3 hi ⟨u2, rfl, s2, hl⟩ ⟨rfl, ch, ec, rfl⟩
      refine ⟨_, rfl, .inl ⟨rfl, _, SqL.of hl⟩, _, rfl, fun D nD => ?_⟩
      have ec' : ("abcdef" : Str).cps.toList[i]? = some ch := by rw [Array.getElem?_toList]; exact ec
      have e10 : ("klmnopqrst" : Str).cps.size = 10 := rfl
      refine lc_pure (walk_str (z := "klmnopqrst")) (fun j => .str ((⟨#[ch]⟩ : Str) ++ ⟨#[(("klmnopqrst" : Str).cps[j]?).getD 0]⟩)) (by rw [e10]; decide) nD (fun _ _ => True.intro) (fun _ _ _ _ y => by rw [y.1]; exact Same.refl _) (fun j y H4 H5 Z hj s4 hy k => ?_) fun H4 s4 h4 => ?_
      · obtain ⟨rfl, ch2, ec2, rfl⟩ := hy
        refine ⟨rfl, ⟨_, rfl, _, rfl, _, _, rfl, rfl, by show 1 + 1 ≤ sizeLine; decide, ?_⟩⟩
        have := k _ (Same.refl _)
        rw [ec2] at this
        exact this
      · refine ⟨l, D, _, _, rfl, rfl, s4 _ _ hl, h4, ?_, _, rfl, same_at (s2.trans s4) nl, ?_⟩
        · rw [List.length_map, List.length_map, List.length_range, e10]
          have h6 : i < 6 := hi
          have : ((("abcdef" : Str).cps.toList.take i).flatMap starRow).length ≤ 60 := by
            have : ∀ xs : List Nat, (xs.flatMap starRow).length = xs.length * 10 := fun xs => by
              induction xs with
              | nil => rfl
              | cons x xs ih =>
                rw [List.flatMap_cons, List.length_append, ih, List.length_cons, Nat.add_mul, Nat.one_mul, Nat.add_comm]
                rfl
            rw [this, List.length_take]
            omega
          exact Nat.le_trans (show _ + 10 ≤ 70 by omega) (by decide)
        · rw [upd_same, List.take_add_one, ec', List.flatMap_append, List.map_append]
          rfl
    · rintro σ H2 ⟨u2, rfl, s2, hl⟩
      have hl' : H2 l = some (.lst (starF.map V.str)) := hl
      have B2 := hB.on s2
      refine ⟨_, rfl, _, rfl, a, c, 60, n, rfl, B2, by omega, by decide, by decide, fun r H3 r0 r1 so3 B3 => ?_⟩
      have hl3 := so3 _ _ nla hl'
      obtain ⟨r, rfl⟩ := Int.eq_ofNat_of_zero_le r0
      have lt : r < starF.length := by rw [starF_len]; omega
      have er : (starF.map V.str)[r]? = some (.str starF[r]) := by
        rw [List.getElem?_map, List.getElem?_eq_getElem lt]
        rfl
      generalize hone : starF[r] = one at er
      have onem : one ∈ starF := by rw [← hone]; exact List.getElem_mem lt
      refine ⟨l, _, _, _, rfl, rfl, SqL.of hl3, atI_nat er, ?_⟩
      refine ⟨_, rfl, l, rfl, ⟨_, SqL.of hl3⟩, fun D nD => ?_⟩
      have nDa := B3.neA nD
      have nDc := B3.neC nD
      refine lc_it (walk_list (K := K) (a := l) (xs := starF.map V.str)) (fun j H' => SameO a H3 H' ∧ BagAt H' a c (n + 1 + 4 * j) ∧ ∃ acc zs, H' D = some (.lst acc) ∧ Ims H' acc (zs.map wayD3) ∧ StarOk one zs j)
        ⟨sameO_new (fun _ _ _ e => e) nD, B3.new nD, [], [], upd_same, .nil, ⟨rfl, fun y hy => nomatch hy⟩⟩ (fun j H' _ g => SqL.of (g.1 _ _ nla hl3)) (fun j v H4 H5 hj g hv => ?_) (fun H4 g => ?_)
      · obtain ⟨so4, B4, acc, zs, hD, im, so⟩ := g
        obtain ⟨rfl, ev⟩ := hv
        rw [List.length_map] at hj
        obtain ⟨nm, hnm⟩ : ∃ nm, starF[j]? = some nm := ⟨_, List.getElem?_eq_getElem hj⟩
        rw [List.getElem?_map, hnm] at ev
        cases ev
        have j60 : j < 60 := by rw [starF_len] at hj; exact hj
        have et : starF.take (j + 1) = starF.take j ++ [nm] := by
          rw [List.take_add_one, hnm]
          rfl
        refine ⟨rfl, ⟨_, rfl, _, rfl, rfl, _, rfl, ?_⟩⟩
        have d1 := dec_str nm one
        by_cases e1 : nm = one
        · rw [d1.trans (decide_eq_true e1)]
          refine iteF ⟨so4, B4.more (by omega), acc, zs, hD, im, ⟨?_, so.beats⟩⟩
          rw [et, List.filter_append, so.pairs]
          simp [e1]
        · rw [d1.trans (decide_eq_false e1)]
          refine iteT ⟨_, rfl, _, rfl, _, _, rfl, _, rfl, _, rfl, _, _, rfl, _, rfl, a, c, _, false, rfl, B4, by omega, fun b H6 b1 b2 b3 so6 B6 => ⟨by show 3 ≤ sizeLine; decide, fun t nt => ?_⟩⟩
          have st := same_new (o := .tup [.str (minS one nm), .str (maxS one nm), .int b]) nt
          have hD6 := st _ _ (so6 _ _ nDa hD)
          have la : acc.length = zs.length := by rw [im.length, List.length_map]
          have lz := so.len
          have ts : TS (upd H6 t (.tup [.str (minS one nm), .str (maxS one nm), .int b])) (upd (upd H6 t (.tup [.str (minS one nm), .str (maxS one nm), .int b])) D (.lst (acc ++ [.ref t]))) := TS.lst hD6
          have ts6 := TS.sameO so6 fun xs e => by
            obtain ⟨z, hz⟩ := B4.lst
            rw [hz] at e
            cases e
          refine ⟨acc, hD6, Nat.lt_of_le_of_lt (show acc.length ≤ 100 by omega) (by decide), sameO_new (sameO_new (so4.trans so6) ((so4.trans so6).free B6 nt)) nD, ((B6.new nt).up nDa nDc).more (by omega), acc ++ [.ref t], zs ++ [(minS one nm, maxS one nm, b)], upd_same, ?_, ⟨?_, fun y hy => ?_⟩⟩
          · rw [List.map_append]
            exact (((im.on ts6).on (TS.same st)).on ts).append (.cons ((way_im (y := (minS one nm, maxS one nm, b)) upd_same).on ts) .nil)
          · rw [et, List.filter_append, List.map_append, List.map_append, so.pairs]
            simp [e1, starPair]
          · rcases List.mem_append.mp hy with hy | hy
            · exact so.beats y hy
            · rw [List.mem_singleton.mp hy]
              exact ⟨b1, b2⟩
      · obtain ⟨so4, B4, acc, zs, hD, im, so⟩ := g
        rw [List.length_map, starF_len] at B4 so
        obtain ⟨wok, pn⟩ := so.web onem
        have la : acc.length = zs.length := by rw [im.length, List.length_map]
        have lz := so.len
        have hl4 := so4 _ _ nla hl3
        have ef : (acc.zip (zs.map wayD3)).map Prod.fst = acc := List.map_fst_zip (by rw [List.length_map]; omega)
        have es : (acc.zip (zs.map wayD3)).map Prod.snd = zs.map wayD3 := List.map_snd_zip (by rw [List.length_map]; omega)
        refine ⟨_, rfl, _, rfl, D, acc.zip (zs.map wayD3), rfl, by rw [ef]; exact SqL.of hD, im.pairs, by rw [es]; exact places_alike _, by rw [es]; exact places_sortable _, fun b hb' => ?_, fun W nW => ⟨by show 2 ≤ sizeLine; decide, fun T nT => ?_⟩⟩
        · have : b.2 ∈ zs.map wayD3 := by
            rw [← es]
            exact List.mem_map.mpr ⟨b, hb', rfl⟩
          obtain ⟨y, _, e⟩ := List.mem_map.mp this
          rw [← e]
          exact place_depth y
        · have sW := same_new (o := .lst (((acc.zip (zs.map wayD3)).mergeSort (PySem.W.dataLe false Prod.snd)).map Prod.fst)) nW
          have sT := same_new (o := .tup [.ref l, .ref W]) nT
          have soH : SameO a H H4 := ((SameO.of s2).trans so3).trans so4
          have B5 := B4.new (o := .lst (((acc.zip (zs.map wayD3)).mergeSort (PySem.W.dataLe false Prod.snd)).map Prod.fst)) nW
          have so5 := sameO_new (o := .lst (((acc.zip (zs.map wayD3)).mergeSort (PySem.W.dataLe false Prod.snd)).map Prod.fst)) soH (soH.free B4 nW)
          have ims := (((sorted_ims im).on (TS.same sW)).on (TS.same sT))
          have eq : sortD (zs.map wayD3) = (sortB wayD3 zs).map wayD3 := by
            unfold sortD sortB
            exact (PySem.W.sort_maps (r := PySem.W.dataLe false wayD3) (s := PySem.W.dataLe false id) wayD3 (l := zs) (fun _ _ _ _ => rfl)).symm
          rw [eq] at ims
          refine q T starF (sortB wayD3 zs) _ (so5.free B5 nT) (sameO_new so5 (so5.free B5 nT)) ⟨l, W, _, upd_same, sT _ _ (sW _ _ hl4), sT _ _ upd_same, ims⟩ wok pn ?_ ((B5.new nT).more (by omega))
          rw [(sortB_perm wayD3 zs).length_eq]
          omega
end
end Cry
namespace Cry
open PySem PySem.Spec PyProof.Rows L2
/-! What the law's body needs of places, lists of places and heaps. -/
theorem placeOk_of {names : List Str} {ways : List Way} (wok : WebOk names ways) (pn : PairsNd ways) {p : Way} (h : PlaceV names ways p) {e : PyData} (re : rowD e = true) (ie : itemsD e = [.str p.1, .str p.2.1, .int p.2.2]) : placeOk names ways e = true := by
  obtain ⟨o1, o2⟩ := placeV_names wok h
  unfold placeOk rowOfD
  rw [re, ie]
  show (true && (nameOkS p.1 && nameOkS p.2.1 && (if p.1 = p.2.1 then inNames p.1 names && decide (p.2.2 = 0) else decide (1 ≤ p.2.2) && decide (p.2.2 < between ways p.1 p.2.1)))) = true
  rw [o1, o2]
  rcases h with ⟨x, hx, rfl⟩ | ⟨y, hy, h1, h2, h3, h4⟩
  · rw [if_pos (show (personP x).1 = (personP x).2.1 from rfl)]
    show (true && (true && true && (inNames x names && true))) = true
    rw [inNames_of hx]
    rfl
  · have ne : p.1 ≠ p.2.1 := by
      rw [h1, h2]
      exact way_ne wok hy
    rw [if_neg ne, h1, h2, between_of pn hy, decide_eq_true h3, decide_eq_true h4]
    rfl
theorem placeOf_items {e : PyData} {p : Way} (ie : itemsD e = [.str p.1, .str p.2.1, .int p.2.2]) : placeOf e = p := wayOf_items ie
theorem placeV_tri {names : List Str} {ways : List Way} (wok : WebOk names ways) {p : Way} (h : PlaceV names ways p) : TriOk p := by
  obtain ⟨o1, o2⟩ := placeV_names wok h
  refine ⟨o1, o2, ?_⟩
  rcases h with ⟨x, hx, rfl⟩ | ⟨y, hy, h1, h2, h3, h4⟩
  · exact ⟨Int.le_refl _, by show (0 : Int) ≤ 1000000000000; decide⟩
  · have := (wok.way y hy).2.2.2.1
    omega
/-- what is beside a place is a place, and the place is beside it -/
theorem numbers_ok {names : List Str} {ways : List Way} (wok : WebOk names ways) (pn : PairsNd ways) {p : Way} (h : PlaceV names ways p) {y : Way} (hy : y ∈ ways) {i : Int} (hi : i ∈ numbersBeside y p) : 0 ≤ i ∧ i ≤ y.2.2 ∧ ∃ j, 0 ≤ j ∧ j ≤ y.2.2 ∧ p = placeOn y j ∧ (i = j + 1 ∨ i = j - 1) := by
  have b1 := (wok.way y hy).2.2.1
  unfold numbersBeside at hi
  split at hi
  · rename_i e
    rw [List.mem_singleton.mp hi]
    exact ⟨by decide, by omega, 0, by decide, by omega, by rw [placeOn_0]; exact e, .inl rfl⟩
  · split at hi
    · rename_i e
      rw [List.mem_singleton.mp hi]
      exact ⟨by omega, by omega, y.2.2, by omega, by omega, by rw [placeOn_b (by omega) rfl]; exact e, .inr rfl⟩
    · split at hi
      · rename_i n1 n2 e
        obtain ⟨k1, k2⟩ : 1 ≤ p.2.2 ∧ p.2.2 < y.2.2 := by
          rcases h with ⟨x, _, rfl⟩ | ⟨z, hz, j1, j2, j3, j4⟩
          · exact absurd (e.1.symm.trans e.2) (way_ne wok hy)
          · have e' := pairs_one pn hz hy (j1.symm.trans e.1) (j2.symm.trans e.2)
            rw [← e']
            exact ⟨j3, j4⟩
        have ep : p = placeOn y p.2.2 := by
          rw [placeOn_m (by omega) (by omega)]
          exact Prod.ext e.1 (Prod.ext e.2 rfl)
        simp only [List.mem_cons, List.not_mem_nil, or_false] at hi
        rcases hi with rfl | rfl
        · exact ⟨by omega, by omega, p.2.2, by omega, by omega, ep, .inr rfl⟩
        · exact ⟨by omega, by omega, p.2.2, by omega, by omega, ep, .inl rfl⟩
      · cases hi
theorem numbers_back {names : List Str} {ways : List Way} (wok : WebOk names ways) {y : Way} (hy : y ∈ ways) {i j : Int} (i0 : 0 ≤ i) (i1 : i ≤ y.2.2) (j0 : 0 ≤ j) (j1 : j ≤ y.2.2) (h : j = i + 1 ∨ j = i - 1) : j ∈ numbersBeside y (placeOn y i) := by
  have ne := way_ne wok hy
  have b1 := (wok.way y hy).2.2.1
  unfold numbersBeside
  by_cases a : i = 0
  · rw [a, placeOn_0, if_pos rfl]
    have : j = 1 := by omega
    rw [this]
    exact List.mem_singleton.mpr rfl
  · by_cases b : i = y.2.2
    · rw [placeOn_b a b, if_neg (fun z => ne (congrArg Prod.fst z).symm), if_pos rfl]
      have : j = y.2.2 - 1 := by omega
      rw [this]
      exact List.mem_singleton.mpr rfl
    · rw [placeOn_m a b, if_neg (fun z => ne (congrArg (fun w : Way => w.2.1) z).symm), if_neg (fun z => ne (congrArg Prod.fst z)), if_pos ⟨rfl, rfl⟩]
      show j ∈ [i - 1, i + 1]
      rcases h with rfl | rfl <;> simp
theorem beside_sym {names : List Str} {ways : List Way} (wok : WebOk names ways) (pn : PairsNd ways) {p r : Way} (h : PlaceV names ways p) (hr : r ∈ besideL ways p) : PlaceV names ways r ∧ p ∈ besideL ways r := by
  unfold besideL at hr
  obtain ⟨y, hy, hr⟩ := List.mem_flatMap.mp hr
  obtain ⟨i, hi, rfl⟩ := List.mem_map.mp hr
  obtain ⟨i0, i1, j, j0, j1, ep, hij⟩ := numbers_ok wok pn h hy hi
  refine ⟨placeV_on wok hy i0 i1, ?_⟩
  unfold besideL
  refine List.mem_flatMap.mpr ⟨y, hy, ?_⟩
  rw [ep]
  exact List.mem_map.mpr ⟨j, numbers_back wok hy i0 i1 j0 j1 (by omega), rfl⟩
/-- the list that neighbours tells -/
def tellL (ways : List Way) (p : Way) : List PyData := sortD ((besideL ways p).map wayD3)
theorem tell_mem {ways : List Way} {p : Way} {d : PyData} (h : d ∈ tellL ways p) : ∃ r ∈ besideL ways p, d = wayD3 r := by
  have := (List.mergeSort_perm _ _).mem_iff.mp h
  obtain ⟨r, hr, rfl⟩ := List.mem_map.mp this
  exact ⟨r, hr, rfl⟩
theorem tell_has {ways : List Way} {p r : Way} (h : r ∈ besideL ways p) : wayD3 r ∈ tellL ways p :=
  (List.mergeSort_perm _ _).mem_iff.mpr (List.mem_map.mpr ⟨r, h, rfl⟩)
theorem tell_len {names : List Str} {ways : List Way} (wok : WebOk names ways) (p : Way) : (tellL ways p).length ≤ 300 := by
  have e : (tellL ways p).length = (besideL ways p).length := by
    unfold tellL sortD
    rw [(List.mergeSort_perm _ _).length_eq, List.length_map]
  have := besideL_len p ways
  have := wok.few
  omega
theorem tell_sm {names : List Str} {ways : List Way} (wok : WebOk names ways) (pn : PairsNd ways) {p : Way} (h : PlaceV names ways p) : Sm 50000 2 (.list (tellL ways p)) := by
  refine Sm.list (B := 130) (k := 1) (fun e he => ?_) ?_
  · obtain ⟨r, hr, rfl⟩ := tell_mem he
    exact Sm.way (placeV_tri wok (beside_sym wok pn h hr).1)
  · have := tell_len wok p
    omega
/-! heaps that keep all but dicts by tuples -/
def Keep (H H' : Hp) : Prop := ∀ b o, (∀ kvs, o ≠ .dT kvs) → H b = some o → H' b = some o
theorem Da.keep {H H' : Hp} (s : Keep H H') {v : V} {d : PyData} (h : Da H v d) : Da H' v d := by
  induction h with
  | non => exact .non
  | bl b => exact .bl b
  | int i => exact .int i
  | str x hz => exact .str x hz
  | lst h hl hi ih => exact .lst (s _ _ (fun _ e => by cases e) h) hl ih
  | tup h hl hi ih => exact .tup (s _ _ (fun _ e => by cases e) h) hl ih
  | dic h => exact .dic (s _ _ (fun _ e => by cases e) h)
theorem Keep.ts {H H' : Hp} (s : Keep H H') : TS H H' := fun b xs h => s b _ (fun _ e => by cases e) h
theorem WebAt.keep {H H' : Hp} {T : Addr} {names : List Str} {ways : List Way} (s : Keep H H') (h : WebAt H T names ways) : WebAt H' T names ways := by
  obtain ⟨F, W, ws, h1, h2, h3, h4⟩ := h
  exact ⟨F, W, ws, s _ _ (fun _ e => by cases e) h1, s _ _ (fun _ e => by cases e) h2, s _ _ (fun _ e => by cases e) h3, h4.on s.ts⟩
theorem keep_frz {H : Hp} {D : Addr} {kvs : List (List Key × V)} {o : HO} (h : H D = some (.dT kvs)) : Keep H (upd H D o) := fun b u n e => by
  rw [upd_ne fun z => by rw [z, h] at e; cases e; exact n _ rfl]
  exact e
theorem Keep.of {H H' : Hp} (s : Same H H') : Keep H H' := fun b o _ e => s b o e
theorem Keep.trans {H H1 H2 : Hp} (a : Keep H H1) (b : Keep H1 H2) : Keep H H2 := fun c o n e => b c o n (a c o n e)
end Cry
namespace Cry
open PySem PySem.Spec PyProof.Rows L2
/-! The law's body. -/
theorem op_notInD' {X : Cx} {k : Nat} (hr : Room k X.A) : OpR X (compareOp .NotIn) (rNotInD X.K) := op_notInD (by have := hr.un; omega)
section
variable {P : Program} {w : World} {K : PySem.W.Frag} {mg : Str → Option Value} {base : Heap}
abbrev nLaw : List Str := ["script", "bag", "turn", "web", "beside", "handed", "kept", "place", "found", "name", "other"]
theorem scLaw : FnScope nLaw ["script"] (defScope sLaw) := ⟨rfl, rfl, rfl, by decide +kernel, rfl, by decide +kernel, by decide +kernel⟩
def spLaw (K : PySem.W.Frag) : Sp := fun vs H Q _ => ∃ (a : Addr) (ns : List Int), vs = [.ref a] ∧ SqL K H a (ns.map V.int) ∧ ns.length ≤ sizeLine ∧ ∀ H', Q (.bl true) H'
theorem nb_sp {H : Hp} {v u : V} {d e : PyData} {p : Way} {names : List Str} {ways : List Way} {Q : VK} {E : XK} (da : Da H v d) (wb : webD d = true ∧ folkOf d = names ∧ waysOf d = ways) (du : Da H u e) (re : rowD e = true) (ie : itemsD e = [.str p.1, .str p.2.1, .int p.2.2])
    (wok : WebOk names ways) (pn : PairsNd ways) (pok : PlaceV names ways p) (k : ∀ l us H', Same H H' → H l = none → H' l = some (.lst us) → Ims H' us (tellL ways p) → Q (.ref l) H') : spNeighbours [v, u] H Q E := by
  refine ⟨v, u, d, e, rfl, da, du, wb.1, ?_, ?_⟩
  · rw [wb.2.1, wb.2.2]
    exact placeOk_of wok pn pok re ie
  · rw [wb.2.2, placeOf_items ie]
    exact fun l us H' s n h im => k l us H' s n h im
theorem place_da {H : Hp} {q : Addr} {p : Way} (h : H q = some (.tup (y3 p))) (t : TriOk p) : Da H (.ref q) (wayD3 p) := .tup h rfl (y3_da t)
/-- repr() and sorted(), so that nothing opens them by itself -/
structure ReprS (K : PySem.W.Frag) (vs : List V) (H : Hp) (Q : VK) : Prop where
  h : rRepr K vs H Q
structure SortS (K : PySem.W.Frag) (vs : List V) (H : Hp) (Q : VK) : Prop where
  h : rSortedD K vs H Q
theorem cr_reprS {X : Cx} (hg : X.A.guards = some []) (hu : X.A.units + 64 < cLine) : CallR X (.builtin "repr") (ReprS X.K) := fun pins s σ H vs us Q I r h => cr_repr hg hu pins s σ H vs us Q I r h.h
theorem cr_sortedDS {X : Cx} (hu : X.A.units + 64 < cLine) : CallR X (.builtin "sorted") (SortS X.K) := fun pins s σ H vs us Q I r h => cr_sortedD hu pins s σ H vs us Q I r h.h
theorem repr_tell {H : Hp} {l : Addr} {us : List V} {Q : VK} {p : Way} {names : List Str} {ways : List Way} (hl : H l = some (.lst us)) (im : Ims H us (tellL ways p)) (wok : WebOk names ways) (pn : PairsNd ways) (pok : PlaceV names ways p) (k : Q (.str (PyData.shown (.list (tellL ways p)))) H) : ReprS K [.ref l] H Q := by
  have sm := tell_sm wok pn pok
  exact ⟨⟨_, _, rfl, list_dp hl im, Nat.le_trans sm.dp (by decide), sm.shown (by decide), sm.sh, k⟩⟩
theorem sorted_tell {H : Hp} {l0 : Addr} {us0 : List V} {Q : VK} {p : Way} {names : List Str} {ways : List Way} (hl : H l0 = some (.lst us0)) (im : Ims H us0 ((besideL ways p).map wayD3)) (wok : WebOk names ways)
    (k : ∀ l us, H l = none → Ims (upd H l (.lst us)) us (tellL ways p) → Q (.ref l) (upd H l (.lst us))) : SortS K [.ref l0] H Q := by
  have hl2 := im.length
  rw [List.length_map] at hl2
  have hb : (besideL ways p).length ≤ 300 := by
    have := besideL_len p ways
    have := wok.few
    omega
  have ef : (us0.zip ((besideL ways p).map wayD3)).map Prod.fst = us0 := List.map_fst_zip (by rw [List.length_map]; omega)
  have es : (us0.zip ((besideL ways p).map wayD3)).map Prod.snd = (besideL ways p).map wayD3 := List.map_snd_zip (by rw [List.length_map]; omega)
  refine ⟨⟨l0, us0.zip ((besideL ways p).map wayD3), rfl, by rw [ef]; exact SqL.of hl, im.pairs, by rw [es]; exact places_alike _, by rw [es]; exact places_sortable _, fun b hb' => ?_, fun r nr => ?_⟩⟩
  · have : b.2 ∈ (besideL ways p).map wayD3 := by
      rw [← es]
      exact List.mem_map.mpr ⟨b, hb', rfl⟩
    obtain ⟨y, _, e⟩ := List.mem_map.mp this
    rw [← e]
    exact place_depth y
  · exact k r _ nr ((sorted_ims im).on (TS.new nr))
theorem ne_same (x : Str) : (!decide (V.str x = V.str x)) = false := by simp
theorem WebAt.sameO {H H' : Hp} {a c T : Addr} {n : Nat} {names : List Str} {ways : List Way} (hB : BagAt H a c n) (hw : WebAt H T names ways) (so : SameO a H H') : WebAt H' T names ways := by
  obtain ⟨F, W, ws, hT, hF, hW, hi, wna, nT, nF, nW⟩ := hw.apart hB
  obtain ⟨F2, W2, ws2, hT2, hF2, hW2, hI⟩ := hw
  cases hT.symm.trans hT2
  cases hW.symm.trans hW2
  exact ⟨F, W, ws, so _ _ nT hT, so _ _ nF hF, so _ _ nW hW, hI.on (TS.sameO so fun xs e => by
    obtain ⟨z, hz⟩ := hB.lst
    rw [hz] at e
    cases e)⟩
theorem TabAt.sameO {H H' : Hp} {a c D : Addr} {n : Nat} {t : Tab} (hB : BagAt H a c n) (h : TabAt H D t) (so : SameO a H H') : TabAt H' D t := by
  obtain ⟨ns, i, big, cnt, total, ha, hc, _⟩ := hB
  have ts : TS H H' := TS.sameO so fun xs e => by
    rw [ha] at e
    cases e
  refine ⟨so _ _ (fun z => ?_) h.dt, fun e he => ?_⟩
  · have := h.dt
    rw [z, ha] at this
    cases this
  · obtain ⟨n, vs, h1, h2⟩ := h.each e he
    refine ⟨n, vs, so _ _ (fun z => ?_) h1, h2.on ts⟩
    rw [z, ha] at h1
    cases h1
    cases he2 : e.2.2.map wayD3 with
    | nil =>
      rw [he2] at h2
      cases h2
    | cons x xs =>
      rw [he2] at h2
      cases h2 with
      | cons a1 a2 =>
        cases he3 : e.2.2 with
        | nil =>
          rw [he3] at he2
          cases he2
        | cons y ys =>
          rw [he3] at he2
          cases he2
          cases a1 with
          | tup h s =>
            rw [hc] at h
            cases h
theorem WebAt.form {H : Hp} {T : Addr} {names : List Str} {ways : List Way} (hw : WebAt H T names ways) (wok : WebOk names ways) : ∃ d, Da H (.ref T) d ∧ webD d = true ∧ folkOf d = names ∧ waysOf d = ways := by
  obtain ⟨F, W, ws, h1, h2, h3, h4⟩ := hw
  obtain ⟨d, d1, d2, _⟩ := web_da (.inr h1) (.inl h2) (.inl h3) ⟨by rw [h4.length, List.length_map], fun i v y e1 e2 => by
    obtain ⟨d, ed, im⟩ := Ims.at h4 e1
    rw [List.getElem?_map, e2] at ed
    cases ed
    obtain ⟨b, rfl, hb⟩ := im_way im
    exact ⟨b, rfl, .inr hb⟩⟩ wok
  exact ⟨d, d1, d2.web wok⟩
theorem lookT_of {t : Tab} (nd : (t.map Prod.fst).Nodup) {e : Way × Addr × List Way} (h : e ∈ t) : lookT t e.1 = some e.2 := by
  induction t with
  | nil => cases h
  | cons e2 t ih =>
    rw [List.map_cons, List.nodup_cons] at nd
    unfold lookT
    rw [List.find?_cons]
    by_cases h1 : e2.1 = e.1
    · rw [decide_eq_true h1]
      rcases List.mem_cons.mp h with rfl | h
      · rfl
      · exact absurd (List.mem_map.mpr ⟨e, h, h1.symm⟩) nd.1
    · rw [decide_eq_false h1]
      rcases List.mem_cons.mp h with rfl | h
      · exact absurd rfl h1
      · exact ih nd.2 h
/-- repr(sorted(beside[place])) -/
theorem rhs_sorted {H : Hp} {D qa : Addr} {od : Obj} {t : Tab} {σ : Slots} {Q : VK} {e : Way × Addr × List Way} {us0 : List V} {names : List Str} {ways : List Way} (e4 : σ[4]? = some (some (.ref D))) (e7 : σ[7]? = some (some (.ref qa))) (hD : H D = some (.frz od (.dT (tabK t)))) (hq : H qa = some (.tup (y3 e.1)))
    (nd : (t.map Prod.fst).Nodup) (he : e ∈ t) (hl : H e.2.1 = some (.lst us0)) (im : Ims H us0 ((besideL ways e.1).map wayD3)) (wok : WebOk names ways) (pn : PairsNd ways) (pok : PlaceV names ways e.1) (k : ∀ H', Same H H' → Q (.str (PyData.shown (.list (tellL ways e.1)))) H') :
    tCB (ReprS K) (tCons (tCB (SortS K) (tCons (tDGet (tVar 4) (tVar 7)) tNil)) tNil) σ H Q := by
  refine ⟨_, e4, _, e7, D, .ref e.2.1, rfl, .inr ⟨tabK t, k3 e.1, qa, .inr ⟨od, hD⟩, rfl, hq, ?_⟩, ?_⟩
  · rw [lookT_val, lookT_of nd he]
    rfl
  · show SortS K [V.ref e.2.1] H fun x H1 => ReprS K [x] H1 Q
    exact sorted_tell hl im wok fun l2 us2 n2 im2 => repr_tell upd_same im2 wok pn pok (k _ (same_new n2))
theorem repr_dat {H : Hp} {v : V} {d : PyData} {Q : VK} {B k : Nat} (h : Dp K H v d) (sm : Sm B k d) (hk : k ≤ 20) (hb : B ≤ 2 ^ 20) (q : Q (.str d.shown) H) : ReprS K [v] H Q := ⟨⟨v, d, rfl, h, Nat.le_trans sm.dp hk, sm.shown hb, sm.sh, q⟩⟩
/-- the law's own defs, as they are called -/
structure LawDefs (P : Program) (w : World) (K : PySem.W.Frag) (mg : Str → Option Value) (base : Heap) where
  (f1 f2 f3 f4 f5 f6 f7 f8 : Addr)
  (d1 d2 d3 d4 d5 d6 d7 d8 : FuncData)
  B1 : Def K mg "_law_bag" f1 d1 ["script"]
  G1 : FnOk P w K mg base CX0 1 f1 d1 ["script"] (spBag K)
  B2 : Def K mg "_law_web" f2 d2 ["bag", "folk", "near"]
  G2 : FnOk P w K mg base CX0 5 f2 d2 ["bag", "folk", "near"] spWeb
  B3 : Def K mg "_law_beside" f3 d3 ["web"]
  G3 : FnOk P w K mg base CX0 1 f3 d3 ["web"] spBesd
  B4 : Def K mg "_law_dressed" f4 d4 ["bag", "web"]
  G4 : FnOk P w K mg base CX0 3 f4 d4 ["bag", "web"] spDressed
  B5 : Def K mg "neighbours" f5 d5 ["web", "place"]
  G5 : FnOk P w K mg base CX0 7 f5 d5 ["web", "place"] spNeighbours
  B6 : Def K mg "_law_spots" f6 d6 ["bag", "web"]
  G6 : FnOk P w K mg base CX0 3 f6 d6 ["bag", "web"] spSpots
  B7 : Def K mg "_law_due" f7 d7 ["web", "place"]
  G7 : FnOk P w K mg base CX0 1 f7 d7 ["web", "place"] spDue
  B8 : Def K mg "_law_star" f8 d8 ["bag"]
  G8 : FnOk P w K mg base CX0 4 f8 d8 ["bag"] spStar
theorem ok_law {f : Addr} {fd : FuncData} (F : Fun K "law" "law" sLaw f fd) (mL : mg "len" = none) (mR : mg "range" = none) (mS : mg "sorted" = none) (mM : mg "min" = none) (mI : mg "list" = none) (mP : mg "repr" = none) (L : LawDefs P w K mg base) : FnG P w K mg base CX0 8 f fd ["script"] (spLaw K) := by
  refine okG F scLaw (fun vs H Q E h => ?_) (fun cdv A outer s H vs Q E hg hr h => ?_)
  · obtain ⟨a, ns, rfl, _⟩ := h
    rfl
  · obtain ⟨a0, ns, rfl, hS, nl0, q⟩ := h
    have hr1 := hr.mono (show 1 ≤ 7 by decide)
    have hr3 := hr.mono (show 3 ≤ 7 by decide)
    have hr4 := hr.mono (show 4 ≤ 7 by decide)
    have hr5 := hr.mono (show 5 ≤ 7 by decide)
    refine ⟨_, (pss_cons (ps_set (i := 1) scLaw.nd rfl (Or.inl rfl) (pe_call L.G1 hr1 (by rfl) L.B1.at_ L.B1.kp L.B1.b .nil pass0 (pa_cons (pv 0) pa_nil)))
       (pss_cons (ps_for PassesOwn.never rfl (pi_range1 (by rfl) mR (pa_cons (pe_op op_add pe_int (pe_callB (call_min2 rfl) (by rfl) mM (by decide +kernel) (pa_cons pe_int (pa_cons (pe_callB cr_lenS (by rfl) mL (by decide +kernel) (pa_cons (pv 0) pa_nil)) pa_nil)))) pa_nil)) (pg_name (i := 2) scLaw.nd rfl (Or.inl rfl)) (pss_cons (ps_set (i := 3) scLaw.nd rfl (Or.inr rfl) (pe_call L.G2 hr5 (by rfl) L.B2.at_ L.B2.kp L.B2.b .nil pass0 (pa_cons (pv 1) (pa_cons pe_int (pa_cons pe_bl pa_nil)))))
       (pss_cons (ps_set (i := 4) scLaw.nd rfl (Or.inl rfl) (pe_call L.G3 hr1 (by rfl) L.B3.at_ L.B3.kp L.B3.b .nil pass0 (pa_cons (pv 3) pa_nil)))
       (pss_cons (ps_set (i := 5) scLaw.nd rfl (Or.inl rfl) (pe_call L.G4 hr3 (by rfl) L.B4.at_ L.B4.kp L.B4.b .nil pass0 (pa_cons (pv 1) (pa_cons (pv 3) pa_nil))))
       (pss_cons (ps_set (i := 6) scLaw.nd rfl (Or.inl rfl) (pe_callB (cr_reprS hg hr.units) (by rfl) mP (by decide +kernel) (pa_cons (pv 5) pa_nil)))
       (pss_cons (ps_lock (ps_for PassesOwn.never rfl (pi_keys (pv 4)) (pg_name (i := 7) scLaw.nd rfl (Or.inr rfl)) (pss_cons (ps_set (i := 8) scLaw.nd rfl (Or.inl rfl) (pe_call L.G5 hr (by rfl) L.B5.at_ L.B5.kp L.B5.b .nil pass0 (pa_cons (pv 5) (pa_cons (pv 7) pa_nil))))
       (pss_cons (ps_if (PW.pt (pw_or (pt_cmpR op_ne (pe_callB (cr_reprS hg hr.units) (by rfl) mP (by decide +kernel) (pa_cons (pv 8) pa_nil)) (pe_callB (cr_reprS hg hr.units) (by rfl) mP (by decide +kernel) (pa_cons (pe_callB (cr_sortedDS hr.units) (by rfl) mS (by decide +kernel) (pa_cons (pe_dget (u1 hr.units) (pv 4) (pv 7) (fun _ _ => rfl)) pa_nil)) pa_nil)) (nomark _)) (pw_or1 (pt_cmpR op_ne (pe_callB (cr_reprS hg hr.units) (by rfl) mP (by decide +kernel) (pa_cons (pe_call L.G5 hr (by rfl) L.B5.at_ L.B5.kp L.B5.b .nil pass0 (pa_cons (pv 3) (pa_cons (pe_callTy cr_listS (by rfl) mI (by decide +kernel) (pa_cons (pv 7) pa_nil)) pa_nil))) pa_nil)) (pe_callB (cr_reprS hg hr.units) (by rfl) mP (by decide +kernel) (pa_cons (pv 8) pa_nil)) (nomark _))))) (pss_one (ps_ret pe_bl)) pss_nil)
       (pss_cons (ps_expr (pe_bm PySem.F.plainAttrs_list PySem.F.slot_list_append PySem.F.type_list_append mt_append (pv 8) (pa_cons (pv 7) pa_nil)))
       (pss_one (ps_if (pt_cmpR op_ne (pe_callB (cr_reprS hg hr.units) (by rfl) mP (by decide +kernel) (pa_cons (pe_call L.G5 hr (by rfl) L.B5.at_ L.B5.kp L.B5.b .nil pass0 (pa_cons (pv 5) (pa_cons (pv 7) pa_nil))) pa_nil)) (pe_callB (cr_reprS hg hr.units) (by rfl) mP (by decide +kernel) (pa_cons (pe_callB (cr_sortedDS hr.units) (by rfl) mS (by decide +kernel) (pa_cons (pe_dget (u1 hr.units) (pv 4) (pv 7) (fun _ _ => rfl)) pa_nil)) pa_nil)) (nomark _)) (pss_one (ps_ret pe_bl)) pss_nil)))))))
       (pss_cons (ps_if (pt_cmpR op_ne (pe_callB (cr_reprS hg hr.units) (by rfl) mP (by decide +kernel) (pa_cons (pv 5) pa_nil)) (pv 6) (nomark _)) (pss_one (ps_ret pe_bl)) pss_nil)
       (pss_cons (ps_set (i := 3) scLaw.nd rfl (Or.inr rfl) (pe_call L.G2 hr5 (by rfl) L.B2.at_ L.B2.kp L.B2.b .nil pass0 (pa_cons (pv 1) (pa_cons pe_int (pa_cons pe_bl pa_nil)))))
       (pss_one (ps_for PassesOwn.never rfl (pi_list (pe_op op_cat (pe_lc (own := [("name", 9)]) (g := gName 9) (tt := tYes) (te := (tTup (tCons (tVar 9) (tCons (tVar 9) (tCons (tC (.int 0)) tNil))))) rfl scLaw.nd (pi_list (pe_ix ix_tup (pv 3) pe_int (fun _ _ => rfl))) (blkOk_by (N := nLaw) (sc := defScope sLaw) (by decide +kernel)) (fun _ _ _ _ _ => (pg_name (i := 9) scLaw.nd rfl (Or.inl rfl))) (fun _ _ _ _ _ => pts_nil) (fun _ _ _ _ _ => (pe_tup (pa_cons (pv 9) (pa_cons (pv 9) (pa_cons pe_int pa_nil)))))) (pe_call L.G6 hr3 (by rfl) L.B6.at_ L.B6.kp L.B6.b .nil pass0 (pa_cons (pv 1) (pa_cons (pv 3) pa_nil))))) (pg_name (i := 7) scLaw.nd rfl (Or.inr rfl)) (pss_cons (ps_set (i := 8) scLaw.nd rfl (Or.inl rfl) (pe_call L.G5 hr (by rfl) L.B5.at_ L.B5.kp L.B5.b .nil pass0 (pa_cons (pv 3) (pa_cons (pv 7) pa_nil))))
       (pss_cons (ps_if (pt_cmpR op_ne (pe_callB (cr_reprS hg hr.units) (by rfl) mP (by decide +kernel) (pa_cons (pv 8) pa_nil)) (pe_callB (cr_reprS hg hr.units) (by rfl) mP (by decide +kernel) (pa_cons (pe_call L.G7 hr1 (by rfl) L.B7.at_ L.B7.kp L.B7.b .nil pass0 (pa_cons (pv 3) (pa_cons (pv 7) pa_nil))) pa_nil)) (nomark _)) (pss_one (ps_ret pe_bl)) pss_nil)
       (pss_one (ps_if (pt_cmpR (op_neD hr.units) (pe_lc (own := [("other", 10)]) (g := gName 10) (tt := tTest (tOp (rNotInD K) (tVar 7) (tCall spNeighbours [] (fun _ _ _ => False) (tCons (tVar 3) (tCons (tVar 10) tNil))))) (te := tVar 10) rfl scLaw.nd (pi_list (pv 8)) (blkOk_by (N := nLaw) (sc := defScope sLaw) (by decide +kernel)) (fun _ _ _ _ _ => (pg_name (i := 10) scLaw.nd rfl (Or.inl rfl))) (fun _ _ _ _ _ => pts_one (pt_cmpR (op_notInD' hr) (pv 7) (pe_call L.G5 hr (by rfl) L.B5.at_ L.B5.kp L.B5.b .nil pass0 (pa_cons (pv 3) (pa_cons (pv 10) pa_nil))) rfl)) (fun _ _ _ _ _ => (pv 10))) (pe_lst pa_nil) (nomark _)) (pss_one (ps_ret pe_bl)) pss_nil))))))))))))))
       (pss_cons (ps_set (i := 3) scLaw.nd rfl (Or.inr rfl) (pe_call L.G8 hr4 (by rfl) L.B8.at_ L.B8.kp L.B8.b .nil pass0 (pa_cons (pv 1) pa_nil)))
       (pss_cons (ps_if (pt_cmpR (op_neD hr.units) (pe_lc (own := [("name", 9)]) (g := gName 9) (tt := tTest (tOp (rNeD K) (tCall spNeighbours [] (fun _ _ _ => False) (tCons (tVar 3) (tCons (tTup (tCons (tVar 9) (tCons (tVar 9) (tCons (tC (.int 0)) tNil)))) tNil))) (tCall spDue [] (fun _ _ _ => False) (tCons (tVar 3) (tCons (tTup (tCons (tVar 9) (tCons (tVar 9) (tCons (tC (.int 0)) tNil)))) tNil))))) (te := tVar 9) rfl scLaw.nd (pi_list (pe_ix ix_tup (pv 3) pe_int (fun _ _ => rfl))) (blkOk_by (N := nLaw) (sc := defScope sLaw) (by decide +kernel)) (fun _ _ _ _ _ => (pg_name (i := 9) scLaw.nd rfl (Or.inl rfl))) (fun _ _ _ _ _ => pts_one (pt_cmpR (op_neD hr.units) (pe_call L.G5 hr (by rfl) L.B5.at_ L.B5.kp L.B5.b .nil pass0 (pa_cons (pv 3) (pa_cons (pe_tup (pa_cons (pv 9) (pa_cons (pv 9) (pa_cons pe_int pa_nil)))) pa_nil))) (pe_call L.G7 hr1 (by rfl) L.B7.at_ L.B7.kp L.B7.b .nil pass0 (pa_cons (pv 3) (pa_cons (pe_tup (pa_cons (pv 9) (pa_cons (pv 9) (pa_cons pe_int pa_nil)))) pa_nil))) (nomark _))) (fun _ _ _ _ _ => (pv 9))) (pe_lst pa_nil) (nomark _)) (pss_one (ps_ret pe_bl)) pss_nil)
       (pss_one (ps_ret (pe_cmpR (op_eqD hr.units) (pe_call L.G5 hr (by rfl) L.B5.at_ L.B5.kp L.B5.b .nil pass0 (pa_cons (pe_tup (pa_cons (pe_lst (pa_cons pe_str pa_nil)) (pa_cons (pe_lst pa_nil) pa_nil))) (pa_cons (pe_tup (pa_cons pe_str (pa_cons pe_str (pa_cons pe_int pa_nil)))) pa_nil))) (pe_lst pa_nil) rfl))))))), ?_⟩
    refine ⟨_, rfl, a0, ns, rfl, hS, fun a c H1 s1 na B1 => ?_⟩
    obtain ⟨m, em, m6⟩ : ∃ m : Int, (2 : Int) + (if ((ns.map V.int).length : Int) < 4 then ((ns.map V.int).length : Int) else 4) = m ∧ 0 ≤ m ∧ m ≤ 6 := ⟨_, rfl, by split <;> omega, by split <;> omega⟩
    refine ⟨_, rfl, a0, _, rfl, .inl (s1.seq hS), 4, _, rfl, _, _, rfl, rfl, 2 + (if ((ns.map V.int).length : Int) < 4 then ((ns.map V.int).length : Int) else 4), rfl, by omega, by omega, ?_⟩
    rw [em]
    refine for_it (walk_range (lo := 0) (n := m.toNat)) (fun i σ H2 => ∃ (u2 u3 u4 u5 u6 u7 u8 : Option V), σ = [some (.ref a0), some (.ref a), u2, u3, u4, u5, u6, u7, u8, none, none] ∧ BagAt H2 a c (5000 * i))
      ⟨none, none, none, none, none, none, none, rfl, B1⟩ (fun _ _ _ _ _ => True.intro) ?_ ?_
    · rintro i x σ H2 H3 hi ⟨u2, u3, u4, u5, u6, u7, u8, rfl, B3⟩ ⟨rfl, rfl⟩
      have i6 : i < 6 := by omega
      -- a near web, its table, its form
      refine ⟨_, rfl, a, c, 5000 * i, 10, true, rfl, B3, by omega, by decide, by decide, fun T names ways H4 nT so4 W4 wok pn nl wl near B4 => ?_⟩
      refine ⟨_, rfl, T, names, ways, rfl, W4, wok, pn, by omega, wl, near rfl, fun D t S H5 bes tb => ?_⟩
      have B5 := B4.on bes.same
      have W5 := W4.on bes.same
      refine ⟨_, rfl, _, rfl, a, c, T, _, names, ways, rfl, B5, by omega, W5, wok, wl, fun v d H6 so6 da wf sm B6 => ?_⟩
      have W6 := W5.sameO B5 so6
      have T6 := bes.at_.sameO B5 so6
      have wb := wf.web wok
      have dp6 := da.dp (K := K) (lay_nodict d sm.lay)
      refine ⟨_, rfl, ?_⟩
      show ReprS K [v] H6 _
      refine repr_dat dp6 sm (by decide) (by decide) ?_
      -- the table's own places
      refine ⟨D, .dT (tabK t), T6.dt, trivial, fun od => ?_⟩
      have hK : Keep H6 (upd H6 D (.frz od (.dT (tabK t)))) := keep_frz T6.dt
      have backS : ∀ H', Same (upd H6 D (.frz od (.dT (tabK t)))) H' → Same H6 (upd H' D (.dT (tabK t))) := fun H' s b o e => by
        by_cases z : b = D
        · rw [z] at e ⊢
          rw [upd_same, ← T6.dt]
          exact e
        · rw [upd_ne z]
          refine s _ _ ?_
          rw [upd_ne z]
          exact e
      have hDw : (upd H6 D (.frz od (.dT (tabK t)))) D = some (.frz od (.dT (tabK t))) := upd_same
      generalize (upd H6 D (.frz od (.dT (tabK t)))) = Hw at hK backS hDw ⊢
      refine ⟨_, rfl, D, od, rfl, .inr ⟨tabK t, hDw, ?_⟩⟩
      refine for_it (walk_keysT (d := D) (o := od) (kvs := tabK t)) (fun j σ H' => ∃ (u7 u8 : Option V), σ = [some (.ref a0), some (.ref a), some (.int (0 + (i : Nat))), some (.ref T), some (.ref D), some v, some (.str d.shown), u7, u8, none, none] ∧ Same Hw H')
        ⟨_, _, rfl, Same.refl _⟩ (fun j σ H' _ ⟨_, _, _, s⟩ => s _ _ hDw) ?_ ?_
      · rintro j x σ H7 H8 hj ⟨w7, w8, rfl, s7⟩ ⟨rfl, k, v', qa, ek, rfl, hq⟩
        obtain ⟨e, et, rfl, rfl⟩ : ∃ e, t[j]? = some e ∧ k3 e.1 = k ∧ V.ref e.2.1 = v' := by
          unfold tabK at ek
          rw [List.getElem?_map] at ek
          cases et : t[j]? with
          | none =>
            rw [et] at ek
            cases ek
          | some e =>
            rw [et] at ek
            cases ek
            exact ⟨e, rfl, rfl, rfl⟩
        have em := List.mem_of_getElem? et
        have pok := bes.ok e em
        have tri := placeV_tri wok pok
        have hq8 : H8 qa = some (.tup (y3 e.1)) := hq
        have da8 := (da.keep hK).on s7
        have W8 := (W6.keep hK).on s7
        obtain ⟨_, us0, hl0, im0⟩ := T6.each e em
        rw [tb e em] at im0
        have hl8 := s7 _ _ (hK _ _ (fun _ z => by cases z) hl0)
        have im8 := (im0.on hK.ts).on (TS.same s7)
        have hD8 := s7 _ _ hDw
        refine ⟨_, rfl, _, rfl, ?_⟩
        refine nb_sp (E := E0) da8 wb (place_da hq8 tri) rfl rfl wok pn pok fun l us H9 s9 nl9 hl9 im9 => ?_
        refine ⟨_, rfl, ?_⟩
        show ReprS K [V.ref l] H9 _
        refine repr_tell hl9 im9 wok pn pok ?_
        refine rhs_sorted (e := e) rfl rfl (s9 _ _ hD8) (s9 _ _ hq8) bes.nd em (s9 _ _ hl8) (im8.on (TS.same s9)) wok pn pok fun H10 s10 => ?_
        refine ⟨rfl, _, rfl, ?_⟩
        rw [ne_same]
        refine iteF ?_
        have s8t := s9.trans s10
        refine ⟨_, rfl, _, rfl, qa, _, rfl, .inr (SqT.of (s8t _ _ hq8)), fun l3 n3 => ?_⟩
        have s3 := same_new (o := .lst (y3 e.1)) n3
        obtain ⟨dW, daW, wbW⟩ := ((W8.on s8t).on s3).form wok
        show spNeighbours [V.ref T, V.ref l3] _ _ E0
        refine nb_sp (E := E0) daW wbW (e := .list [.str e.1.1, .str e.1.2.1, .int e.1.2.2]) (.lst upd_same rfl (y3_da tri)) rfl rfl wok pn pok fun l4 us4 H11 s11 n11 hl11 im11 => ?_
        show ReprS K [V.ref l4] H11 _
        refine repr_tell hl11 im11 wok pn pok ⟨_, rfl, ?_⟩
        have s911 := (s10.trans s3).trans s11
        have hl' := s911 _ _ hl9
        have im' := im9.on (TS.same s911)
        show ReprS K [V.ref l] H11 _
        refine repr_tell hl' im' wok pn pok ⟨rfl, _, rfl, ?_⟩
        rw [ne_same]
        refine iteF ?_
        have lus : us.length ≤ 300 := by
          rw [im9.length]
          exact tell_len wok e.1
        refine ⟨_, rfl, .inl ⟨rfl, _, SqL.of hl'⟩, _, rfl, l, us, _, rfl, rfl, hl', Nat.lt_of_le_of_lt lus (by decide), ?_⟩
        have s812 : Same H8 (upd H11 l (.lst (us ++ [.ref qa]))) := same_at (s9.trans s911) nl9
        refine ⟨_, rfl, _, rfl, ?_⟩
        show spNeighbours [v, V.ref qa] _ _ E0
        refine nb_sp (E := E0) (da8.on s812) wb (place_da (s812 _ _ hq8) tri) rfl rfl wok pn pok fun l5 us5 H13 s13 n13 hl13 im13 => ?_
        show ReprS K [V.ref l5] H13 _
        refine repr_tell hl13 im13 wok pn pok ?_
        have s813 := s812.trans s13
        refine rhs_sorted (e := e) rfl rfl (s813 _ _ hD8) (s813 _ _ hq8) bes.nd em (s813 _ _ hl8) (im8.on (TS.same s813)) wok pn pok fun H14 s14 => ?_
        refine ⟨rfl, _, rfl, ?_⟩
        rw [ne_same]
        exact iteF ⟨_, _, rfl, s7.trans (s813.trans s14)⟩
      · rintro σ H7 ⟨w7, w8, rfl, s7⟩
        refine ⟨s7 _ _ hDw, ?_⟩
        have s67 := backS H7 s7
        show (tSeq _ _) _ _ (upd H7 D (.dT (tabK t)))
        generalize (upd H7 D (.dT (tabK t))) = Hm at s67 ⊢
        refine ⟨_, rfl, ?_⟩
        show ReprS K [v] Hm _
        refine repr_dat ((da.on s67).dp (lay_nodict d sm.lay)) sm (by decide) (by decide) ?_
        refine ⟨_, rfl, rfl, _, rfl, ?_⟩
        rw [ne_same]
        refine iteF ?_
        -- a far web
        have Bm := B6.on s67
        refine ⟨_, rfl, a, c, _, 12, false, rfl, Bm, by omega, by decide, by decide, fun T2 names2 ways2 H9 nT2 so9 W9 wok2 pn2 nl2 wl2 _ B9 => ?_⟩
        have W9' := W9
        obtain ⟨F2, V2, ws2, hT2, hF2, hV2, hI2⟩ := W9'
        refine ⟨_, rfl, T2, _, 0, _, rfl, rfl, SqT.of hT2, atI_nat (j := 0) rfl, F2, rfl, ⟨_, SqL.of hF2⟩, fun D1 nD1 => ?_⟩
        have nDa1 := B9.neA nD1
        refine lc_gen (walk_list (K := K) (a := F2) (xs := names2.map V.str)) TS (fun _ H' => Same H9 H') (fun j y H' => ∀ x, names2[j]? = some x → Im H' y (wayD3 (personP x))) (by rw [List.length_map]; exact Nat.le_trans nl2 (by decide))
          (fun H' acc acc' h => TS.lst h) (fun j H' acc acc' _ gd => same_at gd nD1) (fun j y H' H'' t h x e => (h x e).on t) (same_new nD1) (fun j H' gd => gd.seq (SqL.of hF2)) (fun j y H10 H11 acc Z hj s10 hacc hy k => ?_) (fun H10 ys s10 h10 hlen hR => ?_)
        · obtain ⟨rfl, ex⟩ := hy
          rw [List.length_map] at hj
          rw [List.getElem?_map, List.getElem?_eq_getElem hj] at ex
          cases ex
          refine ⟨rfl, ⟨_, rfl, _, rfl, by show 3 ≤ sizeLine; decide, fun cc nc => ?_⟩⟩
          refine k _ _ (same_new nc _ _ hacc) (TS.new nc) (s10.trans (same_new nc)) fun x e => ?_
          rw [List.getElem?_eq_getElem hj] at e
          cases e
          exact way_im (y := personP names2[j]) upd_same
        · rw [List.length_map] at hlen
          have B10 := B9.on s10
          refine ⟨_, rfl, _, rfl, a, c, T2, _, names2, ways2, rfl, B10, by omega, W9.on s10, wok2, wl2, fun l us ps H11 nl11 so11 hl11 im11 pvs pl B11 => ?_⟩
          have ts11 : TS H10 H11 := TS.sameO so11 fun xs e => by
            obtain ⟨z, hz⟩ := B10.lst
            rw [hz] at e
            cases e
          have h11 := so11 _ _ nDa1 h10
          have W11 := (W9.on s10).sameO B10 so11
          have lus : us.length = ps.length := by rw [im11.length, List.length_map]
          have imy : Ims H11 ys ((names2.map personP).map wayD3) := by
            refine Ims.of (by rw [List.length_map, List.length_map, hlen]) fun j y d e1 e2 => ?_
            rw [List.getElem?_map, List.getElem?_map] at e2
            cases e : names2[j]? with
            | none =>
              rw [e] at e2
              cases e2
            | some x =>
              rw [e] at e2
              cases e2
              exact (hR j y e1 x e).on ts11
          refine ⟨D1, l, _, _, rfl, rfl, h11, hl11, Nat.le_trans (show ys.length + us.length ≤ 1000 by omega) (by decide), fun L nL => ?_⟩
          have sL := same_new (o := .lst (ys ++ us)) nL
          have imA : Ims (upd H11 L (.lst (ys ++ us))) (ys ++ us) ((names2.map personP ++ ps).map wayD3) := by
            rw [List.map_append]
            exact (imy.append im11).on (TS.same sL)
          have pA : ∀ p ∈ names2.map personP ++ ps, PlaceV names2 ways2 p := fun p hp => by
            rcases List.mem_append.mp hp with hp | hp
            · obtain ⟨x, hx, rfl⟩ := List.mem_map.mp hp
              exact .inl ⟨x, hx, rfl⟩
            · exact pvs p hp
          have hLA : (upd H11 L (.lst (ys ++ us))) L = some (.lst (ys ++ us)) := upd_same
          have WA := W11.on sL
          have BA := B11.on sL
          refine ⟨L, rfl, ⟨_, SqL.of upd_same⟩, ?_⟩
          generalize (names2.map personP ++ ps) = al at imA pA
          generalize (upd H11 L (.lst (ys ++ us))) = HA at imA hLA WA BA ⊢
          generalize (ys ++ us) = av at imA hLA ⊢
          refine for_it (walk_list (K := K) (a := L) (xs := av)) (fun j σ H' => ∃ (u7 u8 : Option V), σ = [some (.ref a0), some (.ref a), some (.int (0 + (i : Nat))), some (.ref T2), some (.ref D), some v, some (.str d.shown), u7, u8, none, none] ∧ Same HA H')
            ⟨_, _, rfl, Same.refl _⟩ (fun j σ H' _ ⟨_, _, _, s⟩ => s.seq (SqL.of hLA)) ?_ ?_
          · rintro j x σ H12 H13 hj ⟨w7, w8, rfl, s12⟩ ⟨rfl, ex⟩
            obtain ⟨dd, ed, imx⟩ := Ims.at imA ex
            rw [List.getElem?_map] at ed
            obtain ⟨p, ep, rfl⟩ := Option.map_eq_some_iff.mp ed
            have pok := pA p (List.mem_of_getElem? ep)
            have tri := placeV_tri wok2 pok
            obtain ⟨qa, rfl, hq⟩ := im_way imx
            have hq12 : H13 qa = some (.tup (y3 p)) := s12 _ _ hq
            obtain ⟨dW, daW, wbW⟩ := (WA.on s12).form wok2
            refine ⟨_, rfl, _, rfl, ?_⟩
            refine nb_sp (E := E0) daW wbW (place_da hq12 tri) rfl rfl wok2 pn2 pok fun l1 us1 H14 s14 n14 hl14 im14 => ?_
            refine ⟨_, rfl, ?_⟩
            show ReprS K [V.ref l1] H14 _
            refine repr_tell hl14 im14 wok2 pn2 pok ⟨_, rfl, _, rfl, ?_⟩
            have W14 := (WA.on s12).on s14
            show spDue [V.ref T2, V.ref qa] _ _ E0
            refine ⟨T2, .ref qa, names2, ways2, p, rfl, W14, way_im (s14 _ _ hq12), wok2, pn2, pok, fun l2 us2 H15 s15 n15 hl15 im15 => ?_⟩
            show ReprS K [V.ref l2] H15 _
            refine repr_tell hl15 im15 wok2 pn2 pok ⟨rfl, _, rfl, ?_⟩
            rw [ne_same]
            refine iteF ?_
            have hl1 := s15 _ _ hl14
            have im1 := im14.on (TS.same s15)
            have W15 := W14.on s15
            have hq15 := s15 _ _ (s14 _ _ hq12)
            have s125 := (s12.trans s14).trans s15
            have lus1 : us1.length ≤ 300 := by
              rw [im14.length]
              exact tell_len wok2 p
            refine ⟨_, rfl, l1, rfl, ⟨_, SqL.of hl1⟩, fun D3 nD3 => ?_⟩
            refine lc_it (walk_list (K := K) (a := l1) (xs := us1)) (fun k H' => Same H15 H' ∧ H' D3 = some (.lst [])) ⟨same_new nD3, upd_same⟩ (fun k H' _ g => g.1.seq (SqL.of hl1)) (fun k y H16 H17 hk g hy => ?_) (fun H16 g => ?_)
            · obtain ⟨s16, hD3⟩ := g
              obtain ⟨rfl, ey⟩ := hy
              obtain ⟨d2, ed2, imy2⟩ := Ims.at im1 ey
              obtain ⟨r, hr2, rfl⟩ := tell_mem (List.mem_of_getElem? ed2)
              obtain ⟨rok, back⟩ := beside_sym wok2 pn2 pok hr2
              obtain ⟨qr, rfl, hqr⟩ := im_way imy2
              obtain ⟨dW2, daW2, wbW2⟩ := (W15.on s16).form wok2
              refine ⟨rfl, ⟨_, rfl, _, rfl, _, rfl, ?_⟩⟩
              refine nb_sp (E := E0) daW2 wbW2 (place_da (s16 _ _ hqr) (placeV_tri wok2 rok)) rfl rfl wok2 pn2 rok fun l4 us4 H18 s18 n18 hl18 im18 => ?_
              refine ⟨wayD3 p, tellL ways2 r, (way_im (s18 _ _ (s16 _ _ hq15))).dp, list_dp hl18 im18, (Sm.way tri).shaped (by decide), (tell_sm wok2 pn2 rok).shaped (by decide), _, rfl, ?_⟩
              have any : ((tellL ways2 r).any fun z => PyData.eqv z (wayD3 p)) = true := List.any_eq_true.mpr ⟨wayD3 p, tell_has back, eqv_self _ (Sm.way tri).lay⟩
              rw [any]
              exact iteF ⟨s16.trans s18, s18 _ _ hD3⟩
            · obtain ⟨s16, hD3⟩ := g
              refine ⟨Nat.zero_le _, fun l6 n6 => ?_⟩
              have s6 := same_new (o := .lst []) n6
              refine ⟨.list [], .list [], list_dp (s6 _ _ hD3) .nil, list_dp upd_same .nil, rfl, rfl, _, rfl, ?_⟩
              exact iteF ⟨_, _, rfl, (s125.trans s16).trans s6⟩
          · rintro σ H12 ⟨w7, w8, rfl, s12⟩
            exact ⟨_, _, _, _, _, _, _, rfl, (BA.on s12).more (by omega)⟩
    · rintro σ H2 ⟨u2, u3, u4, u5, u6, u7, u8, rfl, B2⟩
      have m6' : m.toNat ≤ 6 := by omega
      refine ⟨_, rfl, a, c, _, rfl, B2, by omega, fun T names ways H3 nT so3 W3 wok pn wl B3 => ?_⟩
      have W3' := W3
      obtain ⟨F2, V2, ws2, hT2, hF2, hV2, hI2⟩ := W3'
      refine ⟨_, rfl, T, _, 0, _, rfl, rfl, SqT.of hT2, atI_nat (j := 0) rfl, F2, rfl, ⟨_, SqL.of hF2⟩, fun D3 nD3 => ?_⟩
      have most := wok.most
      refine lc_it (walk_list (K := K) (a := F2) (xs := names.map V.str)) (fun k H' => Same H3 H' ∧ H' D3 = some (.lst [])) ⟨same_new nD3, upd_same⟩ (fun k H' _ g => g.1.seq (SqL.of hF2)) (fun k y H4 H5 hk g hy => ?_) (fun H4 g => ?_)
      · obtain ⟨s4, hD3⟩ := g
        obtain ⟨rfl, ey⟩ := hy
        rw [List.length_map] at hk
        obtain ⟨x, hx⟩ : ∃ x, names[k]? = some x := ⟨_, List.getElem?_eq_getElem hk⟩
        rw [List.getElem?_map, hx] at ey
        cases ey
        have pok : PlaceV names ways (personP x) := .inl ⟨x, List.mem_of_getElem? hx, rfl⟩
        have tri := placeV_tri wok pok
        refine ⟨rfl, ⟨_, rfl, _, rfl, _, rfl, by show 3 ≤ sizeLine; decide, fun q1 nq1 => ?_⟩⟩
        have s5 := same_new (o := .tup [.str x, .str x, .int 0]) nq1
        obtain ⟨dW, daW, wbW⟩ := ((W3.on s4).on s5).form wok
        refine nb_sp (E := E0) (p := personP x) daW wbW (place_da (p := personP x) upd_same tri) rfl rfl wok pn pok fun l us H6 s6 n6 hl6 im6 => ?_
        refine ⟨_, rfl, _, rfl, _, rfl, by show 3 ≤ sizeLine; decide, fun q2 nq2 => ?_⟩
        have s7 := same_new (o := .tup [.str x, .str x, .int 0]) nq2
        show spDue [V.ref T, V.ref q2] _ _ E0
        refine ⟨T, .ref q2, names, ways, personP x, rfl, (((W3.on s4).on s5).on s6).on s7, way_im (y := personP x) upd_same, wok, pn, pok, fun l2 us2 H8 s8 n8 hl8 im8 => ?_⟩
        have sm := tell_sm wok pn pok
        refine ⟨.list (tellL ways (personP x)), .list (tellL ways (personP x)), list_dp (s8 _ _ (s7 _ _ hl6)) (im6.on (TS.same (s7.trans s8))), list_dp hl8 im8, sm.shaped (by decide), sm.shaped (by decide), _, rfl, ?_⟩
        rw [eqv_self _ sm.lay]
        have s48 := ((s5.trans s6).trans s7).trans s8
        exact iteF ⟨s4.trans s48, s48 _ _ hD3⟩
      · obtain ⟨s4, hD3⟩ := g
        refine ⟨Nat.zero_le _, fun l6 n6 => ?_⟩
        have s6 := same_new (o := .lst []) n6
        refine ⟨.list [], .list [], list_dp (s6 _ _ hD3) .nil, list_dp upd_same .nil, rfl, rfl, _, rfl, ?_⟩
        refine iteF ?_
        -- somebody alone
        refine ⟨by show 1 ≤ sizeLine; decide, fun L1 n1 => ⟨Nat.zero_le _, fun L2 n2 => ⟨by show 2 ≤ sizeLine; decide, fun T9 n3 => ⟨by show 3 ≤ sizeLine; decide, fun q1 nq1 => ?_⟩⟩⟩⟩
        have t2 := same_new (o := .lst []) n2
        have t3 := same_new (o := .tup [.ref L1, .ref L2]) n3
        have t4 := same_new (o := .tup [.str "a", .str "a", .int 0]) nq1
        have W9 : WebAt _ T9 ["a"] [] := ⟨L1, L2, [], t4 _ _ upd_same, t4 _ _ (t3 _ _ (t2 _ _ upd_same)), t4 _ _ (t3 _ _ upd_same), .nil⟩
        have wok9 : WebOk ["a"] [] := ⟨by decide +kernel, by decide, by decide, rfl, by decide, (fun y hy => nomatch hy), rfl⟩
        have pn9 : PairsNd [] := List.nodup_nil
        have pok9 : PlaceV ["a"] [] (personP "a") := .inl ⟨_, List.mem_singleton.mpr rfl, rfl⟩
        obtain ⟨dW, daW, wbW⟩ := W9.form wok9
        refine nb_sp (E := E0) (p := personP "a") daW wbW (place_da (p := personP "a") upd_same (placeV_tri wok9 pok9)) rfl rfl wok9 pn9 pok9 fun l us H6 s6' n6' hl6 im6 => ?_
        refine ⟨Nat.zero_le _, fun l7 n7 => ?_⟩
        have s7 := same_new (o := .lst []) n7
        have e0 : tellL [] (personP "a") = [] := by
          unfold tellL sortD besideL
          simp
        rw [e0] at im6
        exact ⟨.list [], .list [], list_dp (s7 _ _ hl6) (im6.on (TS.same s7)), list_dp upd_same .nil, rfl, rfl, q _⟩
end
end Cry
namespace Cry
open PySem PySem.Spec PyProof.Rows L2
/-- what the top has written -/
theorem all_mk {l : PySem.W.OpenLaw} {w : World} {K : PySem.W.Frag} {h : Heap} {mg : Str → Option Value} {fa : Addr} (X : K.In h) (G : h.Ns mainGlobals mg) (hfa : mg "law" = some (.ref fa))
    {f1 f2 f3 f4 f5 f6 f7 f8 f9 f10 f11 f12 f13 f14 f15 f16 f17 f18 f19 f20 f21 f22 f23 f24 f25 f26 f27 f28 f29 f30 f31 f32 : Addr} {od1 od2 od3 od4 od5 od6 od7 od8 od9 od10 od11 od12 od13 od14 od15 od16 od17 od18 od19 od20 od21 od22 od23 od24 od25 od26 od27 od28 od29 od30 od31 od32 an1 an2 an3 an4 an5 an6 an7 an8 an9 an10 an11 an12 an13 an14 an15 an16 an17 an18 an19 an20 an21 an22 an23 an24 an25 an26 an27 an28 an29 an30 an31 an32 : Option Addr} {sl1 sl2 sl3 sl4 sl5 sl6 sl7 sl8 sl9 sl10 sl11 sl12 sl13 sl14 sl15 sl16 sl17 sl18 sl19 sl20 sl21 sl22 sl23 sl24 sl25 sl26 sl27 sl28 sl29 sl30 sl31 sl32 : Array (Option Value)} {oc1 oc2 oc3 oc4 oc5 oc6 oc7 oc8 oc9 oc10 oc11 oc12 oc13 oc14 oc15 oc16 oc17 oc18 oc19 oc20 oc21 oc22 oc23 oc24 oc25 oc26 oc27 oc28 oc29 oc30 oc31 oc32 kV1 kV2 kV3 kV4 kV5 kV6 kV7 kV8 kV9 kV10 kV11 kV12 kV13 kV14 kV15 kV16 kV17 kV18 kV19 kV20 kV21 kV22 kV23 kV24 kV25 kV26 kV27 kV28 kV29 kV30 kV31 kV32 dc1 dc2 dc3 dc4 dc5 dc6 dc7 dc8 dc9 dc10 dc11 dc12 dc13 dc14 dc15 dc16 dc17 dc18 dc19 dc20 dc21 dc22 dc23 dc24 dc25 dc26 dc27 dc28 dc29 dc30 dc31 dc32 pm1 pm2 pm3 pm4 pm5 pm6 pm7 pm8 pm9 pm10 pm11 pm12 pm13 pm14 pm15 pm16 pm17 pm18 pm19 pm20 pm21 pm22 pm23 pm24 pm25 pm26 pm27 pm28 pm29 pm30 pm31 pm32 cd1 cd2 cd3 cd4 cd5 cd6 cd7 cd8 cd9 cd10 cd11 cd12 cd13 cd14 cd15 cd16 cd17 cd18 cd19 cd20 cd21 cd22 cd23 cd24 cd25 cd26 cd27 cd28 cd29 cd30 cd31 cd32 ct1 ct2 ct3 ct4 ct5 ct6 ct7 ct8 ct9 ct10 ct11 ct12 ct13 ct14 ct15 ct16 ct17 ct18 ct19 ct20 ct21 ct22 ct23 ct24 ct25 ct26 ct27 ct28 ct29 ct30 ct31 ct32 : Value} {tk1 tk2 tk3 tk4 tk5 : Tok}
    (a1 : PySem.W.nsIn K mainGlobals "is_whole" = some (some (.ref f1))) (l1 : K.lookup f1 = some ⟨oc1, od1, .func (PySem.W.fnOf "is_whole" "is_whole" (defArgs sIsWhole) (defBody sIsWhole) (defScope sIsWhole) .none kV1 dc1 pm1 an1 cd1 ct1), sl1⟩) (c1 : PySem.W.codeIn K cd1 "is_whole" = true) (k1 : PySem.W.keepIn K (.ref f1) = true)
    (a2 : PySem.W.nsIn K mainGlobals "is_row" = some (some (.ref f2))) (l2 : K.lookup f2 = some ⟨oc2, od2, .func (PySem.W.fnOf "is_row" "is_row" (defArgs sIsRow) (defBody sIsRow) (defScope sIsRow) .none kV2 dc2 pm2 an2 cd2 ct2), sl2⟩) (c2 : PySem.W.codeIn K cd2 "is_row" = true) (k2 : PySem.W.keepIn K (.ref f2) = true)
    (a3 : PySem.W.nsIn K mainGlobals "is_row_of" = some (some (.ref f3))) (l3 : K.lookup f3 = some ⟨oc3, od3, .func (PySem.W.fnOf "is_row_of" "is_row_of" (defArgs sIsRowOf) (defBody sIsRowOf) (defScope sIsRowOf) .none kV3 dc3 pm3 an3 cd3 ct3), sl3⟩) (c3 : PySem.W.codeIn K cd3 "is_row_of" = true) (k3 : PySem.W.keepIn K (.ref f3) = true)
    (a4 : PySem.W.nsIn K mainGlobals "is_name" = some (some (.ref f4))) (l4 : K.lookup f4 = some ⟨oc4, od4, .func (PySem.W.fnOf "is_name" "is_name" (defArgs sIsName) (defBody sIsName) (defScope sIsName) .none kV4 dc4 pm4 an4 cd4 ct4), sl4⟩) (c4 : PySem.W.codeIn K cd4 "is_name" = true) (k4 : PySem.W.keepIn K (.ref f4) = true)
    (a5 : PySem.W.nsIn K mainGlobals "rises" = some (some (.ref f5))) (l5 : K.lookup f5 = some ⟨oc5, od5, .func (PySem.W.fnOf "rises" "rises" (defArgs sRises) (defBody sRises) (defScope sRises) .none kV5 dc5 pm5 an5 cd5 ct5), sl5⟩) (c5 : PySem.W.codeIn K cd5 "rises" = true) (k5 : PySem.W.keepIn K (.ref f5) = true)
    (a6 : PySem.W.nsIn K mainGlobals "is_web" = some (some (.ref f6))) (l6 : K.lookup f6 = some ⟨oc6, od6, .func (PySem.W.fnOf "is_web" "is_web" (defArgs sIsWeb) (defBody sIsWeb) (defScope sIsWeb) .none kV6 dc6 pm6 an6 cd6 ct6), sl6⟩) (c6 : PySem.W.codeIn K cd6 "is_web" = true) (k6 : PySem.W.keepIn K (.ref f6) = true)
    (a7 : PySem.W.nsIn K mainGlobals "are_folk" = some (some (.ref f7))) (l7 : K.lookup f7 = some ⟨oc7, od7, .func (PySem.W.fnOf "are_folk" "are_folk" (defArgs sAreFolk) (defBody sAreFolk) (defScope sAreFolk) .none kV7 dc7 pm7 an7 cd7 ct7), sl7⟩) (c7 : PySem.W.codeIn K cd7 "are_folk" = true) (k7 : PySem.W.keepIn K (.ref f7) = true)
    (a8 : PySem.W.nsIn K mainGlobals "are_ways" = some (some (.ref f8))) (l8 : K.lookup f8 = some ⟨oc8, od8, .func (PySem.W.fnOf "are_ways" "are_ways" (defArgs sAreWays) (defBody sAreWays) (defScope sAreWays) .none kV8 dc8 pm8 an8 cd8 ct8), sl8⟩) (c8 : PySem.W.codeIn K cd8 "are_ways" = true) (k8 : PySem.W.keepIn K (.ref f8) = true)
    (a9 : PySem.W.nsIn K mainGlobals "is_way" = some (some (.ref f9))) (l9 : K.lookup f9 = some ⟨oc9, od9, .func (PySem.W.fnOf "is_way" "is_way" (defArgs sIsWay) (defBody sIsWay) (defScope sIsWay) .none kV9 dc9 pm9 an9 cd9 ct9), sl9⟩) (c9 : PySem.W.codeIn K cd9 "is_way" = true) (k9 : PySem.W.keepIn K (.ref f9) = true)
    (a10 : PySem.W.nsIn K mainGlobals "are_way_beats" = some (some (.ref f10))) (l10 : K.lookup f10 = some ⟨oc10, od10, .func (PySem.W.fnOf "are_way_beats" "are_way_beats" (defArgs sAreWayBeats) (defBody sAreWayBeats) (defScope sAreWayBeats) .none kV10 dc10 pm10 an10 cd10 ct10), sl10⟩) (c10 : PySem.W.codeIn K cd10 "are_way_beats" = true) (k10 : PySem.W.keepIn K (.ref f10) = true)
    (a11 : PySem.W.nsIn K mainGlobals "own_web" = some (some (.ref f11))) (l11 : K.lookup f11 = some ⟨oc11, od11, .func (PySem.W.fnOf "own_web" "own_web" (defArgs sOwnWeb) (defBody sOwnWeb) (defScope sOwnWeb) .none kV11 dc11 pm11 an11 cd11 ct11), sl11⟩) (c11 : PySem.W.codeIn K cd11 "own_web" = true) (k11 : PySem.W.keepIn K (.ref f11) = true)
    (a12 : PySem.W.nsIn K mainGlobals "own_place" = some (some (.ref f12))) (l12 : K.lookup f12 = some ⟨oc12, od12, .func (PySem.W.fnOf "own_place" "own_place" (defArgs sOwnPlace) (defBody sOwnPlace) (defScope sOwnPlace) .none kV12 dc12 pm12 an12 cd12 ct12), sl12⟩) (c12 : PySem.W.codeIn K cd12 "own_place" = true) (k12 : PySem.W.keepIn K (.ref f12) = true)
    (a13 : PySem.W.nsIn K mainGlobals "is_place" = some (some (.ref f13))) (l13 : K.lookup f13 = some ⟨oc13, od13, .func (PySem.W.fnOf "is_place" "is_place" (defArgs sIsPlace) (defBody sIsPlace) (defScope sIsPlace) .none kV13 dc13 pm13 an13 cd13 ct13), sl13⟩) (c13 : PySem.W.codeIn K cd13 "is_place" = true) (k13 : PySem.W.keepIn K (.ref f13) = true)
    (a14 : PySem.W.nsIn K mainGlobals "beats_between" = some (some (.ref f14))) (l14 : K.lookup f14 = some ⟨oc14, od14, .func (PySem.W.fnOf "beats_between" "beats_between" (defArgs sBetween) (defBody sBetween) (defScope sBetween) .none kV14 dc14 pm14 an14 cd14 ct14), sl14⟩) (c14 : PySem.W.codeIn K cd14 "beats_between" = true) (k14 : PySem.W.keepIn K (.ref f14) = true)
    (a15 : PySem.W.nsIn K mainGlobals "person" = some (some (.ref f15))) (l15 : K.lookup f15 = some ⟨oc15, od15, .func (PySem.W.fnOf "person" "person" (defArgs sPerson) (defBody sPerson) (defScope sPerson) .none kV15 dc15 pm15 an15 cd15 ct15), sl15⟩) (c15 : PySem.W.codeIn K cd15 "person" = true) (k15 : PySem.W.keepIn K (.ref f15) = true)
    (a16 : PySem.W.nsIn K mainGlobals "place_on" = some (some (.ref f16))) (l16 : K.lookup f16 = some ⟨oc16, od16, .func (PySem.W.fnOf "place_on" "place_on" (defArgs sPlaceOn) (defBody sPlaceOn) (defScope sPlaceOn) .none kV16 dc16 pm16 an16 cd16 ct16), sl16⟩) (c16 : PySem.W.codeIn K cd16 "place_on" = true) (k16 : PySem.W.keepIn K (.ref f16) = true)
    (a17 : PySem.W.nsIn K mainGlobals "numbers_beside" = some (some (.ref f17))) (l17 : K.lookup f17 = some ⟨oc17, od17, .func (PySem.W.fnOf "numbers_beside" "numbers_beside" (defArgs sNumbers) (defBody sNumbers) (defScope sNumbers) .none kV17 dc17 pm17 an17 cd17 ct17), sl17⟩) (c17 : PySem.W.codeIn K cd17 "numbers_beside" = true) (k17 : PySem.W.keepIn K (.ref f17) = true)
    (a18 : PySem.W.nsIn K mainGlobals "places_beside" = some (some (.ref f18))) (l18 : K.lookup f18 = some ⟨oc18, od18, .func (PySem.W.fnOf "places_beside" "places_beside" (defArgs sBeside) (defBody sBeside) (defScope sBeside) .none kV18 dc18 pm18 an18 cd18 ct18), sl18⟩) (c18 : PySem.W.codeIn K cd18 "places_beside" = true) (k18 : PySem.W.keepIn K (.ref f18) = true)
    (a19 : PySem.W.nsIn K mainGlobals "neighbours" = some (some (.ref f19))) (l19 : K.lookup f19 = some ⟨oc19, od19, .func (PySem.W.fnOf "neighbours" "neighbours" (defArgs sNeighbours) (defBody sNeighbours) (defScope sNeighbours) .none kV19 dc19 pm19 an19 cd19 ct19), sl19⟩) (c19 : PySem.W.codeIn K cd19 "neighbours" = true) (k19 : PySem.W.keepIn K (.ref f19) = true)
    (a20 : PySem.W.nsIn K mainGlobals "_law_bag" = some (some (.ref f20))) (l20 : K.lookup f20 = some ⟨oc20, od20, .func (PySem.W.fnOf "_law_bag" "_law_bag" (defArgs sBag) (defBody sBag) (defScope sBag) .none kV20 dc20 pm20 an20 cd20 ct20), sl20⟩) (c20 : PySem.W.codeIn K cd20 "_law_bag" = true) (k20 : PySem.W.keepIn K (.ref f20) = true)
    (a21 : PySem.W.nsIn K mainGlobals "_law_stir" = some (some (.ref f21))) (l21 : K.lookup f21 = some ⟨oc21, od21, .func (PySem.W.fnOf "_law_stir" "_law_stir" (defArgs sStir) (defBody sStir) (defScope sStir) .none kV21 dc21 pm21 an21 cd21 ct21), sl21⟩) (c21 : PySem.W.codeIn K cd21 "_law_stir" = true) (k21 : PySem.W.keepIn K (.ref f21) = true)
    (a22 : PySem.W.nsIn K mainGlobals "_law_draw" = some (some (.ref f22))) (l22 : K.lookup f22 = some ⟨oc22, od22, .func (PySem.W.fnOf "_law_draw" "_law_draw" (defArgs sDraw) (defBody sDraw) (defScope sDraw) .none kV22 dc22 pm22 an22 cd22 ct22), sl22⟩) (c22 : PySem.W.codeIn K cd22 "_law_draw" = true) (k22 : PySem.W.keepIn K (.ref f22) = true)
    (a23 : PySem.W.nsIn K mainGlobals "_law_mixed" = some (some (.ref f23))) (l23 : K.lookup f23 = some ⟨oc23, od23, .func (PySem.W.fnOf "_law_mixed" "_law_mixed" (defArgs sMixed) (defBody sMixed) (defScope sMixed) .none kV23 dc23 pm23 an23 cd23 ct23), sl23⟩) (c23 : PySem.W.codeIn K cd23 "_law_mixed" = true) (k23 : PySem.W.keepIn K (.ref f23) = true)
    (a24 : PySem.W.nsIn K mainGlobals "_law_names" = some (some (.ref f24))) (l24 : K.lookup f24 = some ⟨oc24, od24, .func (PySem.W.fnOf "_law_names" "_law_names" (defArgs sNames) (defBody sNames) (defScope sNames) .none kV24 dc24 pm24 an24 cd24 ct24), sl24⟩) (c24 : PySem.W.codeIn K cd24 "_law_names" = true) (k24 : PySem.W.keepIn K (.ref f24) = true)
    (a25 : PySem.W.nsIn K mainGlobals "_law_beats" = some (some (.ref f25))) (l25 : K.lookup f25 = some ⟨oc25, od25, .func (PySem.W.fnOf "_law_beats" "_law_beats" (defArgs sBeats) (defBody sBeats) (defScope sBeats) .none kV25 dc25 pm25 an25 cd25 ct25), sl25⟩) (c25 : PySem.W.codeIn K cd25 "_law_beats" = true) (k25 : PySem.W.keepIn K (.ref f25) = true)
    (a26 : PySem.W.nsIn K mainGlobals "_law_web" = some (some (.ref f26))) (l26 : K.lookup f26 = some ⟨oc26, od26, .func (PySem.W.fnOf "_law_web" "_law_web" (defArgs sWeb) (defBody sWeb) (defScope sWeb) .none kV26 dc26 pm26 an26 cd26 ct26), sl26⟩) (c26 : PySem.W.codeIn K cd26 "_law_web" = true) (k26 : PySem.W.keepIn K (.ref f26) = true)
    (a27 : PySem.W.nsIn K mainGlobals "_law_dressed" = some (some (.ref f27))) (l27 : K.lookup f27 = some ⟨oc27, od27, .func (PySem.W.fnOf "_law_dressed" "_law_dressed" (defArgs sDressed) (defBody sDressed) (defScope sDressed) .none kV27 dc27 pm27 an27 cd27 ct27), sl27⟩) (c27 : PySem.W.codeIn K cd27 "_law_dressed" = true) (k27 : PySem.W.keepIn K (.ref f27) = true)
    (a28 : PySem.W.nsIn K mainGlobals "_law_beside" = some (some (.ref f28))) (l28 : K.lookup f28 = some ⟨oc28, od28, .func (PySem.W.fnOf "_law_beside" "_law_beside" (defArgs sBesd) (defBody sBesd) (defScope sBesd) .none kV28 dc28 pm28 an28 cd28 ct28), sl28⟩) (c28 : PySem.W.codeIn K cd28 "_law_beside" = true) (k28 : PySem.W.keepIn K (.ref f28) = true)
    (a29 : PySem.W.nsIn K mainGlobals "_law_star" = some (some (.ref f29))) (l29 : K.lookup f29 = some ⟨oc29, od29, .func (PySem.W.fnOf "_law_star" "_law_star" (defArgs sStar) (defBody sStar) (defScope sStar) .none kV29 dc29 pm29 an29 cd29 ct29), sl29⟩) (c29 : PySem.W.codeIn K cd29 "_law_star" = true) (k29 : PySem.W.keepIn K (.ref f29) = true)
    (a30 : PySem.W.nsIn K mainGlobals "_law_spots" = some (some (.ref f30))) (l30 : K.lookup f30 = some ⟨oc30, od30, .func (PySem.W.fnOf "_law_spots" "_law_spots" (defArgs sSpots) (defBody sSpots) (defScope sSpots) .none kV30 dc30 pm30 an30 cd30 ct30), sl30⟩) (c30 : PySem.W.codeIn K cd30 "_law_spots" = true) (k30 : PySem.W.keepIn K (.ref f30) = true)
    (a31 : PySem.W.nsIn K mainGlobals "_law_due" = some (some (.ref f31))) (l31 : K.lookup f31 = some ⟨oc31, od31, .func (PySem.W.fnOf "_law_due" "_law_due" (defArgs sDue) (defBody sDue) (defScope sDue) .none kV31 dc31 pm31 an31 cd31 ct31), sl31⟩) (c31 : PySem.W.codeIn K cd31 "_law_due" = true) (k31 : PySem.W.keepIn K (.ref f31) = true)
    (a32 : PySem.W.nsIn K mainGlobals "law" = some (some (.ref f32))) (l32 : K.lookup f32 = some ⟨oc32, od32, .func (PySem.W.fnOf "law" "law" (defArgs sLaw) (defBody sLaw) (defScope sLaw) .none kV32 dc32 pm32 an32 cd32 ct32), sl32⟩) (c32 : PySem.W.codeIn K cd32 "law" = true) (k32 : PySem.W.keepIn K (.ref f32) = true)
    (z_isinstance : PySem.W.nsIn K mainGlobals "isinstance" = some none)
    (z_int : PySem.W.nsIn K mainGlobals "int" = some none)
    (z_bool : PySem.W.nsIn K mainGlobals "bool" = some none)
    (z_str : PySem.W.nsIn K mainGlobals "str" = some none)
    (z_list : PySem.W.nsIn K mainGlobals "list" = some none)
    (z_tuple : PySem.W.nsIn K mainGlobals "tuple" = some none)
    (z_len : PySem.W.nsIn K mainGlobals "len" = some none)
    (z_all : PySem.W.nsIn K mainGlobals "all" = some none)
    (z_zip : PySem.W.nsIn K mainGlobals "zip" = some none)
    (z_range : PySem.W.nsIn K mainGlobals "range" = some none)
    (z_sorted : PySem.W.nsIn K mainGlobals "sorted" = some none)
    (z_min : PySem.W.nsIn K mainGlobals "min" = some none)
    (z_max : PySem.W.nsIn K mainGlobals "max" = some none)
    (z_set : PySem.W.nsIn K mainGlobals "set" = some none)
    (z_repr : PySem.W.nsIn K mainGlobals "repr" = some none)
    (v_LETTERS : PySem.W.nsIn K mainGlobals "LETTERS" = some (some (.str abc tk1)))
    (v_MOST_LETTERS : PySem.W.nsIn K mainGlobals "MOST_LETTERS" = some (some (.int 8 tk2)))
    (v_MOST_FOLK : PySem.W.nsIn K mainGlobals "MOST_FOLK" = some (some (.int 60 tk3)))
    (v_MOST_WAYS : PySem.W.nsIn K mainGlobals "MOST_WAYS" = some (some (.int 150 tk4)))
    (v_MOST_BEATS : PySem.W.nsIn K mainGlobals "MOST_BEATS" = some (some (.int 1000000000000 tk5)))
    : ∃ fd : FuncData, (∀ (s : Shared) (v : Value), BindsTo s fd ⟨[v], []⟩ [("script", v)]) ∧ ∀ base : Heap, K.In base → base.Ns mainGlobals mg → FnG l.prog w K mg base CX0 8 fa fd ["script"] (spLaw K) := by
  have e := hfa.symm.trans (PySem.W.mg_of X G a32)
  cases e
  have F1 := fun_mk (st := sIsWhole) l1 c1 k1
  have D1 : Def K mg "is_whole" f1 _ ["thing"] := ⟨PySem.W.mg_of X G a1, k1, F1.binds (ps := ["thing"]) fun _ _ _ _ _ _ us hl => match us, hl with | [_], _ => rfl⟩
  have F2 := fun_mk (st := sIsRow) l2 c2 k2
  have D2 : Def K mg "is_row" f2 _ ["thing"] := ⟨PySem.W.mg_of X G a2, k2, F2.binds (ps := ["thing"]) fun _ _ _ _ _ _ us hl => match us, hl with | [_], _ => rfl⟩
  have F3 := fun_mk (st := sIsRowOf) l3 c3 k3
  have D3 : Def K mg "is_row_of" f3 _ ["many", "thing"] := ⟨PySem.W.mg_of X G a3, k3, F3.binds (ps := ["many", "thing"]) fun _ _ _ _ _ _ us hl => match us, hl with | [_, _], _ => rfl⟩
  have F4 := fun_mk (st := sIsName) l4 c4 k4
  have D4 : Def K mg "is_name" f4 _ ["thing"] := ⟨PySem.W.mg_of X G a4, k4, F4.binds (ps := ["thing"]) fun _ _ _ _ _ _ us hl => match us, hl with | [_], _ => rfl⟩
  have F5 := fun_mk (st := sRises) l5 c5 k5
  have D5 : Def K mg "rises" f5 _ ["things"] := ⟨PySem.W.mg_of X G a5, k5, F5.binds (ps := ["things"]) fun _ _ _ _ _ _ us hl => match us, hl with | [_], _ => rfl⟩
  have F6 := fun_mk (st := sIsWeb) l6 c6 k6
  have D6 : Def K mg "is_web" f6 _ ["thing"] := ⟨PySem.W.mg_of X G a6, k6, F6.binds (ps := ["thing"]) fun _ _ _ _ _ _ us hl => match us, hl with | [_], _ => rfl⟩
  have F7 := fun_mk (st := sAreFolk) l7 c7 k7
  have D7 : Def K mg "are_folk" f7 _ ["thing"] := ⟨PySem.W.mg_of X G a7, k7, F7.binds (ps := ["thing"]) fun _ _ _ _ _ _ us hl => match us, hl with | [_], _ => rfl⟩
  have F8 := fun_mk (st := sAreWays) l8 c8 k8
  have D8 : Def K mg "are_ways" f8 _ ["folk", "thing"] := ⟨PySem.W.mg_of X G a8, k8, F8.binds (ps := ["folk", "thing"]) fun _ _ _ _ _ _ us hl => match us, hl with | [_, _], _ => rfl⟩
  have F9 := fun_mk (st := sIsWay) l9 c9 k9
  have D9 : Def K mg "is_way" f9 _ ["folk", "thing"] := ⟨PySem.W.mg_of X G a9, k9, F9.binds (ps := ["folk", "thing"]) fun _ _ _ _ _ _ us hl => match us, hl with | [_, _], _ => rfl⟩
  have F10 := fun_mk (st := sAreWayBeats) l10 c10 k10
  have D10 : Def K mg "are_way_beats" f10 _ ["thing"] := ⟨PySem.W.mg_of X G a10, k10, F10.binds (ps := ["thing"]) fun _ _ _ _ _ _ us hl => match us, hl with | [_], _ => rfl⟩
  have F11 := fun_mk (st := sOwnWeb) l11 c11 k11
  have D11 : Def K mg "own_web" f11 _ ["web"] := ⟨PySem.W.mg_of X G a11, k11, F11.binds (ps := ["web"]) fun _ _ _ _ _ _ us hl => match us, hl with | [_], _ => rfl⟩
  have F12 := fun_mk (st := sOwnPlace) l12 c12 k12
  have D12 : Def K mg "own_place" f12 _ ["web", "place"] := ⟨PySem.W.mg_of X G a12, k12, F12.binds (ps := ["web", "place"]) fun _ _ _ _ _ _ us hl => match us, hl with | [_, _], _ => rfl⟩
  have F13 := fun_mk (st := sIsPlace) l13 c13 k13
  have D13 : Def K mg "is_place" f13 _ ["web", "thing"] := ⟨PySem.W.mg_of X G a13, k13, F13.binds (ps := ["web", "thing"]) fun _ _ _ _ _ _ us hl => match us, hl with | [_, _], _ => rfl⟩
  have F14 := fun_mk (st := sBetween) l14 c14 k14
  have D14 : Def K mg "beats_between" f14 _ ["web", "one", "other"] := ⟨PySem.W.mg_of X G a14, k14, F14.binds (ps := ["web", "one", "other"]) fun _ _ _ _ _ _ us hl => match us, hl with | [_, _, _], _ => rfl⟩
  have F15 := fun_mk (st := sPerson) l15 c15 k15
  have D15 : Def K mg "person" f15 _ ["name"] := ⟨PySem.W.mg_of X G a15, k15, F15.binds (ps := ["name"]) fun _ _ _ _ _ _ us hl => match us, hl with | [_], _ => rfl⟩
  have F16 := fun_mk (st := sPlaceOn) l16 c16 k16
  have D16 : Def K mg "place_on" f16 _ ["way", "number"] := ⟨PySem.W.mg_of X G a16, k16, F16.binds (ps := ["way", "number"]) fun _ _ _ _ _ _ us hl => match us, hl with | [_, _], _ => rfl⟩
  have F17 := fun_mk (st := sNumbers) l17 c17 k17
  have D17 : Def K mg "numbers_beside" f17 _ ["way", "place"] := ⟨PySem.W.mg_of X G a17, k17, F17.binds (ps := ["way", "place"]) fun _ _ _ _ _ _ us hl => match us, hl with | [_, _], _ => rfl⟩
  have F18 := fun_mk (st := sBeside) l18 c18 k18
  have D18 : Def K mg "places_beside" f18 _ ["web", "place"] := ⟨PySem.W.mg_of X G a18, k18, F18.binds (ps := ["web", "place"]) fun _ _ _ _ _ _ us hl => match us, hl with | [_, _], _ => rfl⟩
  have F19 := fun_mk (st := sNeighbours) l19 c19 k19
  have D19 : Def K mg "neighbours" f19 _ ["web", "place"] := ⟨PySem.W.mg_of X G a19, k19, F19.binds (ps := ["web", "place"]) fun _ _ _ _ _ _ us hl => match us, hl with | [_, _], _ => rfl⟩
  have F20 := fun_mk (st := sBag) l20 c20 k20
  have D20 : Def K mg "_law_bag" f20 _ ["script"] := ⟨PySem.W.mg_of X G a20, k20, F20.binds (ps := ["script"]) fun _ _ _ _ _ _ us hl => match us, hl with | [_], _ => rfl⟩
  have F21 := fun_mk (st := sStir) l21 c21 k21
  have D21 : Def K mg "_law_stir" f21 _ ["number", "place"] := ⟨PySem.W.mg_of X G a21, k21, F21.binds (ps := ["number", "place"]) fun _ _ _ _ _ _ us hl => match us, hl with | [_, _], _ => rfl⟩
  have F22 := fun_mk (st := sDraw) l22 c22 k22
  have D22 : Def K mg "_law_draw" f22 _ ["bag", "many"] := ⟨PySem.W.mg_of X G a22, k22, F22.binds (ps := ["bag", "many"]) fun _ _ _ _ _ _ us hl => match us, hl with | [_, _], _ => rfl⟩
  have F23 := fun_mk (st := sMixed) l23 c23 k23
  have D23 : Def K mg "_law_mixed" f23 _ ["bag", "row"] := ⟨PySem.W.mg_of X G a23, k23, F23.binds (ps := ["bag", "row"]) fun _ _ _ _ _ _ us hl => match us, hl with | [_, _], _ => rfl⟩
  have F24 := fun_mk (st := sNames) l24 c24 k24
  have D24 : Def K mg "_law_names" f24 _ ["bag", "many"] := ⟨PySem.W.mg_of X G a24, k24, F24.binds (ps := ["bag", "many"]) fun _ _ _ _ _ _ us hl => match us, hl with | [_, _], _ => rfl⟩
  have F25 := fun_mk (st := sBeats) l25 c25 k25
  have D25 : Def K mg "_law_beats" f25 _ ["bag", "near"] := ⟨PySem.W.mg_of X G a25, k25, F25.binds (ps := ["bag", "near"]) fun _ _ _ _ _ _ us hl => match us, hl with | [_, _], _ => rfl⟩
  have F26 := fun_mk (st := sWeb) l26 c26 k26
  have D26 : Def K mg "_law_web" f26 _ ["bag", "folk", "near"] := ⟨PySem.W.mg_of X G a26, k26, F26.binds (ps := ["bag", "folk", "near"]) fun _ _ _ _ _ _ us hl => match us, hl with | [_, _, _], _ => rfl⟩
  have F27 := fun_mk (st := sDressed) l27 c27 k27
  have D27 : Def K mg "_law_dressed" f27 _ ["bag", "web"] := ⟨PySem.W.mg_of X G a27, k27, F27.binds (ps := ["bag", "web"]) fun _ _ _ _ _ _ us hl => match us, hl with | [_, _], _ => rfl⟩
  have F28 := fun_mk (st := sBesd) l28 c28 k28
  have D28 : Def K mg "_law_beside" f28 _ ["web"] := ⟨PySem.W.mg_of X G a28, k28, F28.binds (ps := ["web"]) fun _ _ _ _ _ _ us hl => match us, hl with | [_], _ => rfl⟩
  have F29 := fun_mk (st := sStar) l29 c29 k29
  have D29 : Def K mg "_law_star" f29 _ ["bag"] := ⟨PySem.W.mg_of X G a29, k29, F29.binds (ps := ["bag"]) fun _ _ _ _ _ _ us hl => match us, hl with | [_], _ => rfl⟩
  have F30 := fun_mk (st := sSpots) l30 c30 k30
  have D30 : Def K mg "_law_spots" f30 _ ["bag", "web"] := ⟨PySem.W.mg_of X G a30, k30, F30.binds (ps := ["bag", "web"]) fun _ _ _ _ _ _ us hl => match us, hl with | [_, _], _ => rfl⟩
  have F31 := fun_mk (st := sDue) l31 c31 k31
  have D31 : Def K mg "_law_due" f31 _ ["web", "place"] := ⟨PySem.W.mg_of X G a31, k31, F31.binds (ps := ["web", "place"]) fun _ _ _ _ _ _ us hl => match us, hl with | [_, _], _ => rfl⟩
  have F32 := fun_mk (st := sLaw) l32 c32 k32
  have n_isinstance := PySem.W.mg_none_of X G z_isinstance
  have n_int := PySem.W.mg_none_of X G z_int
  have n_bool := PySem.W.mg_none_of X G z_bool
  have n_str := PySem.W.mg_none_of X G z_str
  have n_list := PySem.W.mg_none_of X G z_list
  have n_tuple := PySem.W.mg_none_of X G z_tuple
  have n_len := PySem.W.mg_none_of X G z_len
  have n_all := PySem.W.mg_none_of X G z_all
  have n_zip := PySem.W.mg_none_of X G z_zip
  have n_range := PySem.W.mg_none_of X G z_range
  have n_sorted := PySem.W.mg_none_of X G z_sorted
  have n_min := PySem.W.mg_none_of X G z_min
  have n_max := PySem.W.mg_none_of X G z_max
  have n_set := PySem.W.mg_none_of X G z_set
  have n_repr := PySem.W.mg_none_of X G z_repr
  have m_LETTERS := PySem.W.mg_of X G v_LETTERS
  have m_MOST_LETTERS := PySem.W.mg_of X G v_MOST_LETTERS
  have m_MOST_FOLK := PySem.W.mg_of X G v_MOST_FOLK
  have m_MOST_WAYS := PySem.W.mg_of X G v_MOST_WAYS
  have m_MOST_BEATS := PySem.W.mg_of X G v_MOST_BEATS
  have B : Blt mg := ⟨n_isinstance, n_int, n_bool, n_str, n_list, n_tuple, n_len, n_all, n_zip⟩
  refine ⟨PySem.W.fnOf "law" "law" (defArgs sLaw) (defBody sLaw) (defScope sLaw) .none kV32 dc32 pm32 an32 cd32 ct32, fun s v => .of_eq rfl, fun base _ _ => ?_⟩
  have G1 := ok_is_whole (P := l.prog) (w := w) (mg := mg) (base := base) F1 B
  have G2 := ok_is_row (P := l.prog) (w := w) (mg := mg) (base := base) F2 B
  have G3 := ok_is_row_of (P := l.prog) (w := w) (mg := mg) (base := base) F3 B D2 G2
  have G4 := ok_is_name (P := l.prog) (w := w) (mg := mg) (base := base) F4 B m_LETTERS m_MOST_LETTERS
  have G5 := ok_rises (P := l.prog) (w := w) (mg := mg) (base := base) F5 B
  have G10 := ok_are_way_beats (P := l.prog) (w := w) (mg := mg) (base := base) F10 D1 G1 m_MOST_BEATS
  have T : FormDefs l.prog w K mg base := ⟨D3, G3, D4, G4, D10, G10, D2, G2⟩
  have G9 := ok_is_way (P := l.prog) (w := w) (mg := mg) (base := base) F9 T
  have G7 := ok_are_folk (P := l.prog) (w := w) (mg := mg) (base := base) F7 B T D5 G5 m_MOST_FOLK
  have G8 := ok_are_ways (P := l.prog) (w := w) (mg := mg) (base := base) F8 B T D5 G5 D9 G9 m_MOST_WAYS
  have G6 := ok_is_web (P := l.prog) (w := w) (mg := mg) (base := base) F6 T D7 G7 D8 G8
  have G11 := ok_own_web (P := l.prog) (w := w) (mg := mg) (base := base) F11 B D6 G6
  have G15 := ok_person (P := l.prog) (w := w) (mg := mg) (base := base) F15 
  have G16 := ok_place_on (P := l.prog) (w := w) (mg := mg) (base := base) F16 D15 G15
  have G17 := ok_numbers (P := l.prog) (w := w) (mg := mg) (base := base) F17 D15 G15
  have G14 := ok_between (P := l.prog) (w := w) (mg := mg) (base := base) F14 
  have G13 := ok_is_place (P := l.prog) (w := w) (mg := mg) (base := base) F13 T D14 G14 D1 G1
  have G12 := ok_own_place (P := l.prog) (w := w) (mg := mg) (base := base) F12 B D13 G13
  have G18 := ok_beside (P := l.prog) (w := w) (mg := mg) (base := base) F18 n_sorted D16 G16 D17 G17
  have G19 := ok_neighbours (P := l.prog) (w := w) (mg := mg) (base := base) F19 D11 G11 D12 G12 D18 G18
  have G20 := ok_bag (P := l.prog) (w := w) (mg := mg) (base := base) F20 n_list
  have G21 := ok_stir (P := l.prog) (w := w) (mg := mg) (base := base) F21 
  have G22 := ok_draw (P := l.prog) (w := w) (mg := mg) (base := base) F22 n_len D21 G21
  have G23 := ok_mixed (P := l.prog) (w := w) (mg := mg) (base := base) F23 n_len n_list n_range D22 G22
  have G24 := ok_names (P := l.prog) (w := w) (mg := mg) (base := base) F24 n_sorted n_set D23 G23
  have G25 := ok_beats (P := l.prog) (w := w) (mg := mg) (base := base) F25 D22 G22
  have G26 := ok_web (P := l.prog) (w := w) (mg := mg) (base := base) F26 n_len n_range n_sorted n_min D22 G22 D24 G24 D25 G25
  have G27 := ok_dressed (P := l.prog) (w := w) (mg := mg) (base := base) F27 n_list n_tuple D22 G22
  have G28 := ok_besd (P := l.prog) (w := w) (mg := mg) (base := base) F28 n_range n_zip
  have G29 := ok_star (P := l.prog) (w := w) (mg := mg) (base := base) F29 n_sorted n_min n_max D22 G22 D25 G25
  have G30 := ok_spots (P := l.prog) (w := w) (mg := mg) (base := base) F30 n_sorted n_set D22 G22
  have G31 := ok_due (P := l.prog) (w := w) (mg := mg) (base := base) F31 n_sorted
  have LD : LawDefs l.prog w K mg base := ⟨f20, f26, f28, f27, f19, f30, f31, f29, _, _, _, _, _, _, _, _, D20, G20, D26, G26, D28, G28, D27, G27, D19, G19, D30, G30, D31, G31, D29, G29⟩
  exact ok_law F32 n_len n_range n_sorted n_min n_list n_repr LD
end Cry
open PySem PySem.W PyProof.Rows
set_option maxRecDepth 100000 in
set_option maxHeartbeats 0 in
theorem PySem.Challenge.cw_elsetold_k02_neighbours_holds : PySem.Challenge.rw_elsetold_k02_neighbours.Holds := by
  w_on; o_law; k_head; (case hw => w_witness2)
  k_fill
  refine Cry.walkG (l := PySem.Challenge.rw_elsetold_k02_neighbours) (n := 63) (k := 8) (x := "script") (sp := fun w => Cry.spLaw _) rfl (by decide) rfl ⟨rfl, by decide, by decide⟩ (fun w h Y => PySem.W.kIn_of Y) ?F (fun w H a ns hl _ hS => ⟨a, ns, rfl, hS, Nat.le_trans hl (by decide), fun _ => rfl⟩)
  case F =>
    intro w mg fa h KX G hmg
    refine' Cry.all_mk KX G hmg ?a1 ?l1 ?c1 ?k1 ?a2 ?l2 ?c2 ?k2 ?a3 ?l3 ?c3 ?k3 ?a4 ?l4 ?c4 ?k4 ?a5 ?l5 ?c5 ?k5 ?a6 ?l6 ?c6 ?k6 ?a7 ?l7 ?c7 ?k7 ?a8 ?l8 ?c8 ?k8 ?a9 ?l9 ?c9 ?k9 ?a10 ?l10 ?c10 ?k10 ?a11 ?l11 ?c11 ?k11 ?a12 ?l12 ?c12 ?k12 ?a13 ?l13 ?c13 ?k13 ?a14 ?l14 ?c14 ?k14 ?a15 ?l15 ?c15 ?k15 ?a16 ?l16 ?c16 ?k16 ?a17 ?l17 ?c17 ?k17 ?a18 ?l18 ?c18 ?k18 ?a19 ?l19 ?c19 ?k19 ?a20 ?l20 ?c20 ?k20 ?a21 ?l21 ?c21 ?k21 ?a22 ?l22 ?c22 ?k22 ?a23 ?l23 ?c23 ?k23 ?a24 ?l24 ?c24 ?k24 ?a25 ?l25 ?c25 ?k25 ?a26 ?l26 ?c26 ?k26 ?a27 ?l27 ?c27 ?k27 ?a28 ?l28 ?c28 ?k28 ?a29 ?l29 ?c29 ?k29 ?a30 ?l30 ?c30 ?k30 ?a31 ?l31 ?c31 ?k31 ?a32 ?l32 ?c32 ?k32 ?z_isinstance ?z_int ?z_bool ?z_str ?z_list ?z_tuple ?z_len ?z_all ?z_zip ?z_range ?z_sorted ?z_min ?z_max ?z_set ?z_repr ?v_LETTERS ?v_MOST_LETTERS ?v_MOST_FOLK ?v_MOST_WAYS ?v_MOST_BEATS
    (case a1 => k_is); (case l1 => k_is); (case c1 => k_is); (case k1 => k_is); (case a2 => k_is); (case l2 => k_is); (case c2 => k_is); (case k2 => k_is)
    (case a3 => k_is); (case l3 => k_is); (case c3 => k_is); (case k3 => k_is); (case a4 => k_is); (case l4 => k_is); (case c4 => k_is); (case k4 => k_is)
    (case a5 => k_is); (case l5 => k_is); (case c5 => k_is); (case k5 => k_is); (case a6 => k_is); (case l6 => k_is); (case c6 => k_is); (case k6 => k_is)
    (case a7 => k_is); (case l7 => k_is); (case c7 => k_is); (case k7 => k_is); (case a8 => k_is); (case l8 => k_is); (case c8 => k_is); (case k8 => k_is)
    (case a9 => k_is); (case l9 => k_is); (case c9 => k_is); (case k9 => k_is); (case a10 => k_is); (case l10 => k_is); (case c10 => k_is); (case k10 => k_is)
    (case a11 => k_is); (case l11 => k_is); (case c11 => k_is); (case k11 => k_is); (case a12 => k_is); (case l12 => k_is); (case c12 => k_is); (case k12 => k_is)
    (case a13 => k_is); (case l13 => k_is); (case c13 => k_is); (case k13 => k_is); (case a14 => k_is); (case l14 => k_is); (case c14 => k_is); (case k14 => k_is)
    (case a15 => k_is); (case l15 => k_is); (case c15 => k_is); (case k15 => k_is); (case a16 => k_is); (case l16 => k_is); (case c16 => k_is); (case k16 => k_is)
    (case a17 => k_is); (case l17 => k_is); (case c17 => k_is); (case k17 => k_is); (case a18 => k_is); (case l18 => k_is); (case c18 => k_is); (case k18 => k_is)
    (case a19 => k_is); (case l19 => k_is); (case c19 => k_is); (case k19 => k_is); (case a20 => k_is); (case l20 => k_is); (case c20 => k_is); (case k20 => k_is)
    (case a21 => k_is); (case l21 => k_is); (case c21 => k_is); (case k21 => k_is); (case a22 => k_is); (case l22 => k_is); (case c22 => k_is); (case k22 => k_is)
    (case a23 => k_is); (case l23 => k_is); (case c23 => k_is); (case k23 => k_is); (case a24 => k_is); (case l24 => k_is); (case c24 => k_is); (case k24 => k_is)
    (case a25 => k_is); (case l25 => k_is); (case c25 => k_is); (case k25 => k_is); (case a26 => k_is); (case l26 => k_is); (case c26 => k_is); (case k26 => k_is)
    (case a27 => k_is); (case l27 => k_is); (case c27 => k_is); (case k27 => k_is); (case a28 => k_is); (case l28 => k_is); (case c28 => k_is); (case k28 => k_is)
    (case a29 => k_is); (case l29 => k_is); (case c29 => k_is); (case k29 => k_is); (case a30 => k_is); (case l30 => k_is); (case c30 => k_is); (case k30 => k_is)
    (case a31 => k_is); (case l31 => k_is); (case c31 => k_is); (case k31 => k_is); (case a32 => k_is); (case l32 => k_is); (case c32 => k_is); (case k32 => k_is)
    (case z_isinstance => k_is); (case z_int => k_is); (case z_bool => k_is); (case z_str => k_is); (case z_list => k_is); (case z_tuple => k_is); (case z_len => k_is); (case z_all => k_is)
    (case z_zip => k_is); (case z_range => k_is); (case z_sorted => k_is); (case z_min => k_is); (case z_max => k_is); (case z_set => k_is); (case z_repr => k_is); (case v_LETTERS => k_is)
    (case v_MOST_LETTERS => k_is); (case v_MOST_FOLK => k_is); (case v_MOST_WAYS => k_is); (case v_MOST_BEATS => k_is)
