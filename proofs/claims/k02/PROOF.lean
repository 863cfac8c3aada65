import PyProof.Rows.All
import Wide.All
import OpenK.AllK
import Wide.FinOn
import HandS.ForMost
import HandS.IsInst
import KE.KRevSl
import KE.KDictSum
import HandS.Codes
import HandS.Conv
import HandS.DictComp
import HandS.TupAny
import HandS.Flow
import HandS.Rev
import PySem.Challenge.RW_drivefold_k02_parts_put_in
set_option Elab.async false
set_option linter.all false
set_option maxRecDepth 100000
set_option maxHeartbeats 4000000
namespace DF
open PySem L2
/-! ### data: None, ints, texts, tuples of such -/
inductive Dt where
  | non
  | key (k : Key)
  | tup (l : List Dt)
mutual
inductive DAt (K : PySem.W.Frag) (H : Hp) : V → Dt → Prop
  | non : DAt K H .non .non
  | key {k : Key} : DAt K H (kV k) (.key k)
  | tup {a : Addr} {vs : List V} {ds : List Dt} : SqT K H a vs → DsAt K H vs ds → vs.length ≤ 1000000 → DAt K H (.ref a) (.tup ds)
inductive DsAt (K : PySem.W.Frag) (H : Hp) : List V → List Dt → Prop
  | nil : DsAt K H [] []
  | cons {v : V} {d : Dt} {vs : List V} {ds : List Dt} : DAt K H v d → DsAt K H vs ds → DsAt K H (v :: vs) (d :: ds)
end
/-- tuples stay -/
def TStay (K : PySem.W.Frag) (H H' : Hp) : Prop := ∀ a xs, SqT K H a xs → SqT K H' a xs
mutual
theorem DAt.mono {K : PySem.W.Frag} {H H' : Hp} (st : TStay K H H') : ∀ {v : V} {d : Dt}, DAt K H v d → DAt K H' v d
  | _, _, .non => .non
  | _, _, .key => .key
  | _, _, .tup h t z => .tup (st _ _ h) (DsAt.mono st t) z
theorem DsAt.mono {K : PySem.W.Frag} {H H' : Hp} (st : TStay K H H') : ∀ {vs : List V} {ds : List Dt}, DsAt K H vs ds → DsAt K H' vs ds
  | _, _, .nil => .nil
  | _, _, .cons h t => .cons (DAt.mono st h) (DsAt.mono st t)
end
theorem DAt.tup_inv {K : PySem.W.Frag} {H : Hp} {v : V} {ds : List Dt} (h : DAt K H v (.tup ds)) : ∃ a vs, v = .ref a ∧ SqT K H a vs ∧ DsAt K H vs ds ∧ vs.length ≤ 1000000 := by
  cases h with
  | tup h t z => exact ⟨_, _, rfl, h, t, z⟩
theorem DAt.key_inv {K : PySem.W.Frag} {H : Hp} {v : V} {k : Key} (h : DAt K H v (.key k)) : v = kV k := by
  cases h with
  | key => rfl
theorem DsAt.length {K : PySem.W.Frag} {H : Hp} : ∀ {vs : List V} {ds : List Dt}, DsAt K H vs ds → vs.length = ds.length
  | _, _, .nil => rfl
  | _, _, .cons _ t => by rw [List.length_cons, List.length_cons, DsAt.length t]
theorem DsAt.get {K : PySem.W.Frag} {H : Hp} : ∀ {vs : List V} {ds : List Dt} {i : Nat} {d : Dt}, DsAt K H vs ds → ds[i]? = some d → ∃ v, vs[i]? = some v ∧ DAt K H v d
  | _, _, _, _, .nil, e => by simp at e
  | _, _, 0, _, .cons h _, e => by
    have e := Option.some.inj e
    subst e
    exact ⟨_, rfl, h⟩
  | _, _, i + 1, _, .cons _ t, e => DsAt.get (i := i) t e
theorem DsAt.get' {K : PySem.W.Frag} {H : Hp} : ∀ {vs : List V} {ds : List Dt} {i : Nat} {v : V}, DsAt K H vs ds → vs[i]? = some v → ∃ d, ds[i]? = some d ∧ DAt K H v d
  | _, _, _, _, .nil, e => by simp at e
  | _, _, 0, _, .cons h _, e => by
    have e := Option.some.inj e
    subst e
    exact ⟨_, rfl, h⟩
  | _, _, i + 1, _, .cons _ t, e => DsAt.get' (i := i) t e
theorem DsAt.append {K : PySem.W.Frag} {H : Hp} : ∀ {vs ws : List V} {ds es : List Dt}, DsAt K H vs ds → DsAt K H ws es → DsAt K H (vs ++ ws) (ds ++ es)
  | _, _, _, _, .nil, h => h
  | _, _, _, _, .cons a t, h => .cons a (DsAt.append t h)
theorem DsAt.take {K : PySem.W.Frag} {H : Hp} : ∀ {vs : List V} {ds : List Dt}, DsAt K H vs ds → ∀ n : Nat, DsAt K H (vs.take n) (ds.take n)
  | _, _, _, 0 => .nil
  | _, _, .nil, _ + 1 => .nil
  | _, _, .cons a t, n + 1 => .cons a (DsAt.take t n)
theorem DsAt.drop {K : PySem.W.Frag} {H : Hp} : ∀ {vs : List V} {ds : List Dt}, DsAt K H vs ds → ∀ n : Nat, DsAt K H (vs.drop n) (ds.drop n)
  | _, _, h, 0 => h
  | _, _, .nil, _ + 1 => .nil
  | _, _, .cons _ t, n + 1 => DsAt.drop t n
theorem DsAt.reverse {K : PySem.W.Frag} {H : Hp} : ∀ {vs : List V} {ds : List Dt}, DsAt K H vs ds → DsAt K H vs.reverse ds.reverse
  | _, _, .nil => .nil
  | _, _, .cons a t => by
    rw [List.reverse_cons, List.reverse_cons]
    exact DsAt.append (DsAt.reverse t) (.cons a .nil)
theorem DsAt.keys {K : PySem.W.Frag} {H : Hp} : ∀ (ks : List Key), DsAt K H (ks.map kV) (ks.map .key)
  | [] => .nil
  | _ :: r => .cons .key (DsAt.keys r)
theorem DsAt.keys_inv {K : PySem.W.Frag} {H : Hp} : ∀ {ks : List Key} {vs : List V}, DsAt K H vs (ks.map .key) → vs = ks.map kV
  | [], _, .nil => rfl
  | k :: r, _, .cons a t => by
    rw [a.key_inv, DsAt.keys_inv t]
    rfl
mutual
def Dt.deep : Dt → Nat
  | .non => 0
  | .key _ => 0
  | .tup l => Dt.deepL l + 1
def Dt.deepL : List Dt → Nat
  | [] => 0
  | d :: r => max d.deep (Dt.deepL r)
end
theorem Dt.deep_mem : ∀ {l : List Dt} {d : Dt}, d ∈ l → d.deep ≤ Dt.deepL l
  | x :: r, d, h => by
    rw [Dt.deepL]
    rcases List.mem_cons.mp h with rfl | h
    · exact Nat.le_max_left _ _
    · exact Nat.le_trans (Dt.deep_mem h) (Nat.le_max_right _ _)
/-! ### terms -/
inductive Tm where
  | mk (h : Key) (ts : List Tm)
mutual
def Tm.dat : Tm → Dt
  | .mk h ts => .tup [.key h, .tup (Tm.datL ts)]
def Tm.datL : List Tm → List Dt
  | [] => []
  | t :: r => t.dat :: Tm.datL r
end
mutual
def Tm.heads : Tm → List Key
  | .mk h ts => h :: Tm.headsL ts
def Tm.headsL : List Tm → List Key
  | [] => []
  | t :: r => t.heads ++ Tm.headsL r
end
mutual
def Tm.size : Tm → Nat
  | .mk _ ts => Tm.sizeL ts + 1
def Tm.sizeL : List Tm → Nat
  | [] => 0
  | t :: r => t.size + Tm.sizeL r
end
mutual
def Tm.high : Tm → Nat
  | .mk _ ts => Tm.highL ts + 1
def Tm.highL : List Tm → Nat
  | [] => 0
  | t :: r => max t.high (Tm.highL r)
end
mutual
def Tm.pre : Tm → List Tm
  | .mk h ts => .mk h ts :: Tm.preL ts
def Tm.preL : List Tm → List Tm
  | [] => []
  | t :: r => t.pre ++ Tm.preL r
end
def Tm.hd : Tm → Key
  | .mk h _ => h
def Tm.args : Tm → List Tm
  | .mk _ ts => ts
theorem Tm.datL_map : ∀ ts : List Tm, Tm.datL ts = ts.map Tm.dat
  | [] => rfl
  | t :: r => by rw [Tm.datL, Tm.datL_map r, List.map_cons]
theorem Tm.sizeL_append : ∀ a b : List Tm, Tm.sizeL (a ++ b) = Tm.sizeL a + Tm.sizeL b
  | [], b => by rw [List.nil_append, Tm.sizeL, Nat.zero_add]
  | t :: r, b => by rw [List.cons_append, Tm.sizeL, Tm.sizeL, Tm.sizeL_append r b, Nat.add_assoc]
theorem Tm.preL_append : ∀ a b : List Tm, Tm.preL (a ++ b) = Tm.preL a ++ Tm.preL b
  | [], b => by rw [List.nil_append, Tm.preL, List.nil_append]
  | t :: r, b => by rw [List.cons_append, Tm.preL, Tm.preL, Tm.preL_append r b, List.append_assoc]
theorem Tm.headsL_append : ∀ a b : List Tm, Tm.headsL (a ++ b) = Tm.headsL a ++ Tm.headsL b
  | [], b => by rw [List.nil_append, Tm.headsL, List.nil_append]
  | t :: r, b => by rw [List.cons_append, Tm.headsL, Tm.headsL, Tm.headsL_append r b, List.append_assoc]
mutual
theorem Tm.heads_length : ∀ t : Tm, t.heads.length = t.size
  | .mk h ts => by rw [Tm.heads, Tm.size, List.length_cons, Tm.headsL_length ts]
theorem Tm.headsL_length : ∀ ts : List Tm, (Tm.headsL ts).length = Tm.sizeL ts
  | [] => rfl
  | t :: r => by rw [Tm.headsL, Tm.sizeL, List.length_append, Tm.heads_length t, Tm.headsL_length r]
end
mutual
theorem Tm.pre_length : ∀ t : Tm, t.pre.length = t.size
  | .mk h ts => by rw [Tm.pre, Tm.size, List.length_cons, Tm.preL_length ts]
theorem Tm.preL_length : ∀ ts : List Tm, (Tm.preL ts).length = Tm.sizeL ts
  | [] => rfl
  | t :: r => by rw [Tm.preL, Tm.sizeL, List.length_append, Tm.pre_length t, Tm.preL_length r]
end
mutual
theorem Tm.pre_heads : ∀ t : Tm, t.pre.map Tm.hd = t.heads
  | .mk h ts => by rw [Tm.pre, Tm.heads, List.map_cons, Tm.preL_heads ts, Tm.hd]
theorem Tm.preL_heads : ∀ ts : List Tm, (Tm.preL ts).map Tm.hd = Tm.headsL ts
  | [] => rfl
  | t :: r => by rw [Tm.preL, Tm.headsL, List.map_append, Tm.pre_heads t, Tm.preL_heads r]
end
mutual
theorem Tm.high_size : ∀ t : Tm, t.high ≤ t.size
  | .mk h ts => by
    rw [Tm.high, Tm.size]
    exact Nat.succ_le_succ (Tm.highL_size ts)
theorem Tm.highL_size : ∀ ts : List Tm, Tm.highL ts ≤ Tm.sizeL ts
  | [] => Nat.le_refl _
  | t :: r => by
    rw [Tm.highL, Tm.sizeL]
    have h1 := Tm.high_size t
    have h2 := Tm.highL_size r
    omega
end
theorem Tm.size_pos (t : Tm) : 0 < t.size := by
  cases t with
  | mk h ts => rw [Tm.size]; exact Nat.succ_pos _
theorem Tm.high_mem : ∀ {ts : List Tm} {t : Tm}, t ∈ ts → t.high ≤ Tm.highL ts
  | x :: r, t, h => by
    rw [Tm.highL]
    rcases List.mem_cons.mp h with rfl | h
    · exact Nat.le_max_left _ _
    · exact Nat.le_trans (Tm.high_mem h) (Nat.le_max_right _ _)
theorem Tm.size_mem : ∀ {ts : List Tm} {t : Tm}, t ∈ ts → t.size ≤ Tm.sizeL ts
  | x :: r, t, h => by
    rw [Tm.sizeL]
    rcases List.mem_cons.mp h with rfl | h
    · exact Nat.le_add_right _ _
    · exact Nat.le_trans (Tm.size_mem h) (Nat.le_add_left _ _)
theorem Tm.len_sizeL : ∀ ts : List Tm, ts.length ≤ Tm.sizeL ts
  | [] => Nat.le_refl _
  | t :: r => by
    rw [Tm.sizeL, List.length_cons]
    have h1 := Tm.size_pos t
    have h2 := Tm.len_sizeL r
    omega
mutual
theorem Tm.dat_deep : ∀ t : Tm, t.dat.deep ≤ 2 * t.size
  | .mk h ts => by
    rw [Tm.dat, Dt.deep, Dt.deepL, Dt.deepL, Dt.deepL, Dt.deep, Dt.deep, Tm.size]
    have h1 := Tm.datL_deep ts
    omega
theorem Tm.datL_deep : ∀ ts : List Tm, Dt.deepL (Tm.datL ts) ≤ 2 * Tm.sizeL ts
  | [] => Nat.le_refl _
  | t :: r => by
    rw [Tm.datL, Dt.deepL, Tm.sizeL]
    have h1 := Tm.dat_deep t
    have h2 := Tm.datL_deep r
    omega
end
abbrev TAt (K : PySem.W.Frag) (H : Hp) (v : V) (t : Tm) : Prop := DAt K H v t.dat
theorem TAt.inv {K : PySem.W.Frag} {H : Hp} {v : V} {t : Tm} (h : TAt K H v t) : ∃ a b vs, v = .ref a ∧ SqT K H a [kV t.hd, .ref b] ∧ SqT K H b vs ∧ DsAt K H vs (t.args.map Tm.dat) ∧ vs.length ≤ 1000000 := by
  cases t with
  | mk k ts =>
    have h : DAt K H v (Tm.dat (.mk k ts)) := h
    rw [Tm.dat] at h
    obtain ⟨a, vs, rfl, s, q, _⟩ := h.tup_inv
    cases q with
    | cons q1 q =>
      cases q with
      | cons q2 q =>
        cases q
        obtain ⟨b, ws, rfl, s2, q3, z3⟩ := q2.tup_inv
        rw [q1.key_inv] at s
        rw [Tm.datL_map] at q3
        exact ⟨a, b, ws, rfl, s, s2, q3, z3⟩
theorem TAt.of {K : PySem.W.Frag} {H : Hp} {a b : Addr} {k : Key} {vs : List V} {ts : List Tm} (h : SqT K H a [kV k, .ref b]) (h2 : SqT K H b vs) (h3 : DsAt K H vs (ts.map Tm.dat)) (z : vs.length ≤ 1000000) : TAt K H (.ref a) (.mk k ts) := by
  show DAt K H (.ref a) (Tm.dat (.mk k ts))
  rw [Tm.dat, Tm.datL_map]
  exact .tup h (.cons .key (.cons (.tup h2 h3 z) .nil)) (by show 2 ≤ 1000000; decide)
/-- all heads keep P -/
def Tm.All (P : Key → Prop) (t : Tm) : Prop := ∀ k ∈ t.heads, P k
/-! ### frames -/
/-- all but the object at st stands as it stood -/
def Keep (st : Addr) (H H' : Hp) : Prop := ∀ b o, b ≠ st → H b = some o → H' b = some o
theorem Keep.refl (st : Addr) (H : Hp) : Keep st H H := fun _ _ _ h => h
theorem Keep.trans {st : Addr} {H H1 H2 : Hp} (a : Keep st H H1) (b : Keep st H1 H2) : Keep st H H2 := fun c o n h => b c o n (a c o n h)
theorem Keep.of {st : Addr} {H H' : Hp} (a : Same H H') : Keep st H H' := fun c o _ h => a c o h
theorem Keep.new {st : Addr} {H : Hp} {p : Addr} (h : H p = none) (o : HO) : Keep st H (upd H p o) := fun b u _ q => by rw [upd_ne (ne_of_none q h)]; exact q
theorem Keep.put {st : Addr} {H : Hp} (o : HO) : Keep st H (upd H st o) := fun b u n q => by rw [upd_ne n]; exact q
theorem same_new {H : Hp} {p : Addr} (h : H p = none) (o : HO) : Same H (upd H p o) := fun b u q => by rw [upd_ne (ne_of_none q h)]; exact q
theorem TStay.of {K : PySem.W.Frag} {H H' : Hp} (e : Same H H') : TStay K H H' := fun a xs h => by
  rcases h with (h | ⟨o, h⟩) | h
  · exact .inl (.inl (e _ _ h))
  · exact .inl (.inr ⟨o, e _ _ h⟩)
  · exact .inr h
theorem TStay.refl {K : PySem.W.Frag} {H : Hp} : TStay K H H := fun _ _ h => h
theorem TStay.trans {K : PySem.W.Frag} {H H1 H2 : Hp} (a : TStay K H H1) (b : TStay K H1 H2) : TStay K H H2 := fun _ _ h => b _ _ (a _ _ h)
theorem Keep.tups {K : PySem.W.Frag} {st : Addr} {H H' : Hp} {xs : List V} (hs : H st = some (.lst xs)) (e : Keep st H H') : TStay K H H' := fun a ys h => by
  rcases h with (h | ⟨o, h⟩) | h
  · exact .inl (.inl (e _ _ (ne_of h hs (by intro z; cases z)) h))
  · exact .inl (.inr ⟨o, e _ _ (ne_of h hs (by intro z; cases z)) h⟩)
  · exact .inr h
/-- a list that stays whatever becomes of the object at st -/
def Scr (K : PySem.W.Frag) (H : Hp) (st sc : Addr) (xs : List V) : Prop := ∀ H', Keep st H H' → SqL K H' sc xs
theorem Scr.here {K : PySem.W.Frag} {H : Hp} {st sc : Addr} {xs : List V} (h : Scr K H st sc xs) : SqL K H sc xs := h H (Keep.refl _ _)
theorem Scr.keep {K : PySem.W.Frag} {H H' : Hp} {st sc : Addr} {xs : List V} (h : Scr K H st sc xs) (k : Keep st H H') : Scr K H' st sc xs := fun _ k' => h _ (k.trans k')
theorem Scr.of {K : PySem.W.Frag} {H : Hp} {st sc : Addr} {xs : List V} (h : H sc = some (.lst xs)) (n : sc ≠ st) : Scr K H st sc xs := fun _ k => .inl (.inl (k _ _ n h))
theorem Scr.new {K : PySem.W.Frag} {H : Hp} {st sc : Addr} {xs : List V} (h : SqL K H sc xs) (n : H st = none) (o : HO) : Scr K (upd H st o) st sc xs := fun H' k => by
  rcases h with (h | ⟨u, h⟩) | h
  · have ne := ne_of_none h n
    exact .inl (.inl (k _ _ ne (by rw [upd_ne ne]; exact h)))
  · have ne := ne_of_none h n
    exact .inl (.inr ⟨u, k _ _ ne (by rw [upd_ne ne]; exact h)⟩)
  · exact .inr h
/-! ### the law's state -/
def StAt (H : Hp) (st : Addr) (d : Int) : Prop := ∃ a b c : Int, H st = some (.lst [.int a, .int b, .int c, .int d]) ∧ 0 ≤ a ∧ 0 ≤ b ∧ 0 ≤ c ∧ c < 2147483647
structure SOk (K : PySem.W.Frag) (H : Hp) (st sc : Addr) (ns : List Int) (d : Int) : Prop where
  state : StAt H st d
  scr : Scr K H st sc (ns.map V.int)
theorem StAt.same {H H' : Hp} {st : Addr} {d : Int} (S : StAt H st d) (k : Same H H') : StAt H' st d := by
  obtain ⟨a, b, c, e, r⟩ := S
  exact ⟨a, b, c, k _ _ e, r⟩
theorem StAt.upd {H : Hp} {st p : Addr} {d : Int} (S : StAt H st d) (n : p ≠ st) (o : HO) : StAt (upd H p o) st d := by
  obtain ⟨a, b, c, e, r⟩ := S
  exact ⟨a, b, c, by rw [upd_ne n.symm]; exact e, r⟩
theorem StAt.ne {H : Hp} {st p : Addr} {d : Int} (S : StAt H st d) (h : H p = none) : p ≠ st := by
  obtain ⟨a, b, c, e, r⟩ := S
  exact (ne_of_none e h).symm
theorem StAt.ts {K : PySem.W.Frag} {H H' : Hp} {st : Addr} {d : Int} (S : StAt H st d) (k : Keep st H H') : TStay K H H' := by
  obtain ⟨a, b, c, e, r⟩ := S
  exact k.tups e
theorem SOk.go {K : PySem.W.Frag} {H H' : Hp} {st sc : Addr} {ns : List Int} {d d' : Int} (S : SOk K H st sc ns d) (k : Keep st H H') (h : StAt H' st d') : SOk K H' st sc ns d' := ⟨h, S.scr.keep k⟩
theorem SOk.same {K : PySem.W.Frag} {H H' : Hp} {st sc : Addr} {ns : List Int} {d : Int} (S : SOk K H st sc ns d) (k : Same H H') : SOk K H' st sc ns d := S.go (Keep.of k) (S.state.same k)
theorem SOk.new {K : PySem.W.Frag} {H : Hp} {st sc p : Addr} {ns : List Int} {d : Int} (S : SOk K H st sc ns d) (h : H p = none) (o : HO) : SOk K (upd H p o) st sc ns d := S.same (same_new h o)
theorem SOk.ts {K : PySem.W.Frag} {H H' : Hp} {st sc : Addr} {ns : List Int} {d : Int} (S : SOk K H st sc ns d) (k : Keep st H H') : TStay K H H' := S.state.ts k
theorem SOk.ne {K : PySem.W.Frag} {H : Hp} {st sc p : Addr} {ns : List Int} {d : Int} (S : SOk K H st sc ns d) (h : H p = none) : p ≠ st := S.state.ne h
/-- what is new behind H0 may be changed -/
theorem Keep.upd {st : Addr} {H0 H : Hp} {p : Addr} (k : Keep st H0 H) (h : H0 p = none) (o : HO) : Keep st H0 (upd H p o) := fun b u n q => by
  rw [upd_ne (ne_of_none q h)]
  exact k _ _ n q
theorem sameUpd {H0 H : Hp} {p : Addr} (k : Same H0 H) (h : H0 p = none) (o : HO) : Same H0 (upd H p o) := fun b u q => by
  rw [upd_ne (ne_of_none q h)]
  exact k _ _ q
theorem Keep.free {st : Addr} {H H' : Hp} {l : Addr} (k : Keep st H H') (n : l ≠ st) (h : H' l = none) : H l = none := by
  cases q : H l with
  | none => rfl
  | some o =>
    rw [k l o n q] at h
    cases h
/-- a tracked list changed: tuples stay -/
theorem TStay.lst {K : PySem.W.Frag} {H : Hp} {l : Addr} {xs : List V} (h : H l = some (.lst xs)) (o : HO) : TStay K H (upd H l o) := fun a ys q => by
  rcases q with (q | ⟨u, q⟩) | q
  · exact .inl (.inl (by rw [upd_ne (ne_of q h (by intro z; cases z))]; exact q))
  · exact .inl (.inr ⟨u, by rw [upd_ne (ne_of q h (by intro z; cases z))]; exact q⟩)
  · exact .inr q
theorem TStay.new {K : PySem.W.Frag} {H : Hp} {p : Addr} (h : H p = none) (o : HO) : TStay K H (upd H p o) := TStay.of (same_new h o)
theorem TAt.new {K : PySem.W.Frag} {H : Hp} {a b : Addr} {k : Key} {vs : List V} {ts : List Tm} (hb : SqT K H b vs) (h3 : DsAt K H vs (ts.map Tm.dat)) (z : vs.length ≤ 1000000) (ha : H a = none) : TAt K (upd H a (.tup [kV k, .ref b])) (.ref a) (.mk k ts) :=
  TAt.of (SqT.of upd_same) (TStay.new ha _ _ _ hb) (h3.mono (TStay.new ha _)) z
theorem TAt.leaf {K : PySem.W.Frag} {H : Hp} {a b : Addr} {k : Key} (hb : H b = none) (ha : (upd H b (.tup [])) a = none) : TAt K (upd (upd H b (.tup [])) a (.tup [kV k, .ref b])) (.ref a) (.mk k []) :=
  TAt.new (SqT.of upd_same) .nil (Nat.zero_le _) ha
/-! ### each once, in the order of the first places -/
instance decMemKey (k : Key) : (l : List Key) → Decidable (k ∈ l)
  | [] => .isFalse List.not_mem_nil
  | j :: r => match decEq k j with
    | .isTrue h => .isTrue (by rw [h]; exact List.mem_cons_self ..)
    | .isFalse h => match decMemKey k r with
      | .isTrue q => .isTrue (List.mem_cons_of_mem _ q)
      | .isFalse q => .isFalse fun z => by
        rcases List.mem_cons.mp z with z | z
        · exact h z
        · exact q z
def addK (l : List Key) (k : Key) : List Key := if k ∈ l then l else l ++ [k]
def dedup (ks : List Key) : List Key := ks.foldl addK []
theorem dedup_snoc (ks : List Key) (k : Key) : dedup (ks ++ [k]) = addK (dedup ks) k := by
  unfold dedup
  rw [List.foldl_append]
  rfl
theorem addK_length (l : List Key) (k : Key) : (addK l k).length ≤ l.length + 1 := by
  unfold addK
  split
  · omega
  · rw [List.length_append, List.length_singleton]
    exact Nat.le_refl _
theorem dedup_length_aux : ∀ (ks l : List Key), (ks.foldl addK l).length ≤ l.length + ks.length
  | [], l => Nat.le_refl _
  | k :: r, l => by
    rw [List.foldl_cons, List.length_cons]
    have h1 := dedup_length_aux r (addK l k)
    have h2 := addK_length l k
    omega
theorem dedup_length (ks : List Key) : (dedup ks).length ≤ ks.length := by
  have h := dedup_length_aux ks []
  rw [List.length_nil, Nat.zero_add] at h
  exact h
theorem addK_mem {l : List Key} {k j : Key} : j ∈ addK l k ↔ j ∈ l ∨ j = k := by
  unfold addK
  split
  · rename_i h
    constructor
    · exact .inl
    · rintro (h1 | rfl)
      · exact h1
      · exact h
  · rw [List.mem_append, List.mem_singleton]
theorem flat_kV (k : Key) : flatV (kV k) = true := by cases k <;> rfl
theorem flat_keys (ks : List Key) : (ks.map kV).all flatV = true := by
  rw [List.all_eq_true]
  intro v hv
  obtain ⟨k, _, rfl⟩ := List.mem_map.mp hv
  exact flat_kV k
theorem eqV_kV (a b : Key) : eqV (kV a) (kV b) = decide (a = b) := by
  cases a with
  | inl i =>
    cases b with
    | inl j =>
      show (i == j) = _
      exact (key_ll i j).symm
    | inr y => exact (key_lr i y).symm
  | inr x =>
    cases b with
    | inl j => exact (key_rl x j).symm
    | inr y =>
      show (x == y) = _
      rw [key_rr]
      by_cases h : x = y
      · subst h
        simp
      · rw [decide_eq_false h]
        exact beq_eq_false_iff_ne.mpr h
theorem inV_kV (k : Key) (ks : List Key) : inV (kV k) (ks.map kV) = decide (k ∈ ks) := by
  unfold inV
  rw [Bool.eq_iff_iff, List.any_eq_true, decide_eq_true_eq]
  constructor
  · rintro ⟨v, hv, h⟩
    obtain ⟨j, hj, rfl⟩ := List.mem_map.mp hv
    rw [eqV_kV, decide_eq_true_eq] at h
    rw [← h]
    exact hj
  · intro h
    exact ⟨kV k, List.mem_map.mpr ⟨k, h, rfl⟩, by rw [eqV_kV, decide_eq_true rfl]⟩
theorem putK_keys (kvs : List (Key × V)) (k : Key) (v : V) : (putK kvs k v).map (·.1) = addK (kvs.map (·.1)) k := by
  unfold putK addK
  by_cases h : k ∈ kvs.map (·.1)
  · rw [if_pos h]
    have e : (kvs.any fun kv => decide (kv.1 = k)) = true := by
      rw [List.any_eq_true]
      obtain ⟨p, hp, hk⟩ := List.mem_map.mp h
      exact ⟨p, hp, decide_eq_true hk⟩
    rw [if_pos e, List.map_map]
    apply List.map_congr_left
    intro p _
    show (if p.1 = k then (p.1, v) else p).1 = p.1
    split <;> rfl
  · rw [if_neg h]
    have e : ¬ (kvs.any fun kv => decide (kv.1 = k)) = true := by
      rw [List.any_eq_true]
      rintro ⟨p, hp, hk⟩
      exact h (List.mem_map.mpr ⟨p, hp, of_decide_eq_true hk⟩)
    rw [if_neg e, List.map_append]
    rfl
theorem map_set_of {l : List Tm} {P : Key → Prop} (h : ∀ t ∈ l, t.All P) : ∀ k ∈ Tm.headsL l, P k := by
  induction l with
  | nil =>
    intro k hk
    rw [Tm.headsL] at hk
    exact absurd hk List.not_mem_nil
  | cons t r ih =>
    intro k hk
    rw [Tm.headsL] at hk
    rcases List.mem_append.mp hk with hk | hk
    · exact h t (List.mem_cons_self ..) k hk
    · exact ih (fun u hu => h u (List.mem_cons_of_mem _ hu)) k hk
theorem Tm.All.mk {P : Key → Prop} {k : Key} {ts : List Tm} (h : P k) (hs : ∀ t ∈ ts, t.All P) : (Tm.mk k ts).All P := by
  intro j hj
  rw [Tm.heads] at hj
  rcases List.mem_cons.mp hj with rfl | hj
  · exact h
  · exact map_set_of hs j hj
theorem ty_tup {K : PySem.W.Frag} {H : Hp} {a : Addr} {xs : List V} (h : SqT K H a xs) : TyX K H (.ref a) (.type "tuple") := by
  rcases h with (h | ⟨o, h⟩) | ⟨o, its, n, h, c, _⟩
  · exact .base (.tup h)
  · exact .fTuple h
  · exact .kTuple h c
theorem fn_none {P : Program} {w : World} {K : PySem.W.Frag} {mg : Str → Option Value} {base : Heap} {k : Nat} {f : Addr} {fd : FuncData} {ps : List Str} {sp : Sp} (no : ∀ vs H Q E, ¬ sp vs H Q E) : FnOk P w K mg base CX0 k f fd ps sp :=
  ⟨fun vs H Q E h => absurd h (no vs H Q E), fun _ _ _ H _ _ vs Q E _ _ _ _ h => absurd h (no vs H Q E)⟩
end DF

namespace DF
open PySem PySem.Spec PyProof.Rows L2
section
variable {prog : Program} {w : World} {A : Around} {E : Value → Shared → Prop} {s : Shared}
theorem adjust_rev (n : Nat) : Builtin.Slice.sliceAdjust none none (-1) (n : Int) = ((n : Int) - 1, -1) := by
  unfold Builtin.Slice.sliceAdjust
  rfl
theorem places_rev (n : Nat) : Builtin.Slice.slicePlaces ((n : Int) - 1) (-1) (-1) = n := by
  unfold Builtin.Slice.slicePlaces
  have h1 : ¬ ((-1 : Int) > 0) := by decide
  simp only [h1, if_false]
  by_cases h : (n : Int) - 1 > -1
  · simp only [h, if_true]
    rw [show (- -1 : Int) = 1 by decide, Int.ediv_one]
    omega
  · simp only [h, if_false]
    omega
theorem sliceApplied_rev {sl : Addr} {vk : Value} {n : Nat} {Q : Int × Int × Nat → Shared → Prop} (hs : s.heap.IsSliceOf sl .none .none vk) (pk : IsPart vk (some (-1)))
    (h : Q ((n : Int) - 1, -1, n) s) : wpAny (model prog w) A (Builtin.Slice.sliceApplied (.ref sl) (pure (n : Int))) Q E s := by
  obtain ⟨os, hos, hcs, hds⟩ := id hs
  unfold Builtin.Slice.sliceApplied Builtin.Slice.sliceFields
  refine wpAny_bind (wpAny_bind (wpAny_field hos hds (x := .none) rfl (wpAny_bind (wpAny_field hos hds (x := .none) rfl (wpAny_bind (wpAny_field hos hds (x := vk) rfl (wpAny_pure ?_)))))))
  refine wpAny_bind (HT.slicePart_ pk ?_)
  show wpAny _ _ (if ((-1 : Int) == 0) = true then _ else _) _ _ s
  rw [if_neg (by decide)]
  refine wpAny_bind (HT.slicePart_ .none (wpAny_bind (HT.slicePart_ .none (wpAny_bind (wpAny_pure ?_)))))
  show wpAny _ _ (match Builtin.Slice.sliceAdjust none none (-1) (n : Int) with | (lo, hi) => pure (lo, (-1 : Int), Builtin.Slice.slicePlaces lo hi (-1))) _ _ s
  rw [adjust_rev n]
  show wpAny _ _ (pure (((n : Int) - 1), (-1 : Int), Builtin.Slice.slicePlaces ((n : Int) - 1) (-1) (-1))) _ _ s
  rw [places_rev]
  exact wpAny_pure h
theorem fm_congr {α β : Type} {f g : α → Option β} : ∀ {l : List α}, (∀ x ∈ l, f x = g x) → l.filterMap f = l.filterMap g
  | [], _ => rfl
  | x :: r, h => by
    rw [List.filterMap_cons, List.filterMap_cons, h x (List.mem_cons_self ..), fm_congr fun y hy => h y (List.mem_cons_of_mem _ hy)]
theorem pick_rev (xs : Array Value) : ((List.range xs.size).filterMap fun (m : Nat) => xs[((xs.size : Int) - 1 + (m : Int) * (-1)).toNat]?).toArray = xs.toList.reverse.toArray := by
  congr 1
  have e : (List.range xs.size).filterMap (fun (m : Nat) => xs[((xs.size : Int) - 1 + (m : Int) * (-1)).toNat]?) = ((List.range xs.size).map fun k => xs.size - 1 - k).filterMap (fun m => xs[m]?) := by
    rw [List.filterMap_map]
    refine fm_congr fun m hm => ?_
    have := List.mem_range.mp hm
    show _ = xs[xs.size - 1 - m]?
    congr 1
    omega
  rw [e, PySem.W.krv_range, List.filterMap_reverse]
  congr 1
  exact PySem.W.krv_all xs
theorem getItem_tuple_rev {t sl : Addr} {items : Array Value} {vk : Value} {Q : Value → Shared → Prop} (ht : IsTup s.heap t items) (hs : s.heap.IsSliceOf sl .none .none vk) (pk : IsPart vk (some (-1)))
    (h : Q (.ref s.heap.objs.size) { s with heap := s.heap.push { cls := .type "tuple", data := .seq items.toList.reverse.toArray } })
    (hsz : items.size ≤ sizeLine) : wpAny (model prog w) A (getItem (.ref t) (.ref sl)) Q E s := by
  have htake : sizeOk (.seq items.toList.reverse.toArray) := by
    show items.toList.reverse.toArray.size ≤ sizeLine
    rw [List.size_toArray, List.length_reverse, Array.length_toList]
    exact hsz
  obtain ⟨os, hos, hcs, hds⟩ := id hs
  have hTs : s.TypeIs (.ref sl) "slice" := ⟨os, hos, hcs⟩
  unfold getItem
  try with_reducible refine wpAny_holding ?_
  first | refine wpAny_bind (wpAny_pure ?_) | skip
  refine wpAny_bind (wpAny_sequenceKey ht.typeIs (by decide) ?_)
  refine wpAny_bind (wpAny_callSpecial?_slot (name := Str.ofString "__getitem__") ht.typeIs PyProof.Rows.slot_tuple_getitem
    (wpAny_call_entry PyProof.Rows.slot_tuple_getitem ht.typeIs entry_tuple_getitem ?_ (args_tuple_getitem _ _)))
  show wpAny _ _ (Builtin.Tuple.tupleItemsOf (.ref t) >>= _) _ _ s
  refine wpAny_bind (tupleItemsOf_ ht ?_)
  refine wpAny_bind (wpAny_typeOf hTs ?_)
  rw [if_pos (by decide)]
  refine wpAny_bind (sliceApplied_rev hs pk ?_)
  have hno : ¬ (((((items.size : Nat) : Int) - 1) == 0 && (-1 : Int) == 1 && items.size == items.size) = true) := by
    intro q
    rw [Bool.and_eq_true, Bool.and_eq_true] at q
    exact absurd q.1.2 (by decide)
  show wpAny _ _ (if ((((items.size : Nat) : Int) - 1) == 0 && (-1 : Int) == 1 && items.size == items.size) = true then _ else _) _ _ s
  rw [if_neg hno, pick_rev]
  first
    | exact wpAny_bind (m := Builtin.Tuple.tupleExact _) (wpAny_newObj_type (wpAny_pure ⟨_, rfl, wpAny_pure h⟩) htake)
    | exact wpAny_bind (m := Builtin.Tuple.tupleExact _) (wpAny_newObj_type (wpAny_bind (wpAny_pure (wpAny_pure ⟨_, rfl, wpAny_pure h⟩))) htake)
    | exact wpAny_bind (wpAny_bind (m := Builtin.Tuple.tupleExact _) (wpAny_newObj_type (wpAny_pure (wpAny_pure ⟨_, rfl, wpAny_pure h⟩)) htake))
    | exact wpAny_bind (wpAny_bind (m := Builtin.Tuple.tupleExact _) (wpAny_newObj_type (wpAny_pure ⟨_, rfl, wpAny_pure h⟩) htake))
end
section
variable {X : Cx} {e : Expr} {te : TE} {pos p1 p2 p3 : Pos} {i1 : Nat}
/-- t[::-1] of a tuple: a new tuple -/
def tRevT (K : PySem.W.Frag) (te : TE) : TE := fun σ H Q => te σ H fun x H1 => ∃ a xs, x = .ref a ∧ SqT K H1 a xs ∧ ∀ p, H1 p = none → Q (.ref p) (upd H1 p (.tup xs.reverse))
theorem pe_revT {st : Expr} {ts : TE} (he : PE X e te) (hs : PO X (some st) ts') (h1 : ∀ σ H Q, ts' σ H Q = Q (some (-1)) H) : PE X (.Subscript e (.Slice none none (some st) p2) pos) (tRevT X.K te) := by
  refine ⟨fun pins s σ H Q I h => ?_⟩
  refine Subscript_ (thn (he.run pins s σ H _ I h) fun v s1 ⟨x, H1, I1, r1, q1⟩ => ?_)
  refine wpAny_Slice ?_
  rw [evalPart_none]
  refine wpAny_pure (wpAny_pure (thn (hs.run pins s1 σ H1 (fun o H' => o = some (-1) ∧ H' = H1) I1 (by rw [h1]; exact ⟨rfl, rfl⟩)) fun vk s2 ⟨o, H2, I2, pk, eo, eH⟩ => ?_))
  subst eo eH
  obtain ⟨a, xs, rfl, ha, q⟩ := q1
  cases r1
  have I4 : Inv X pins σ H2 { s2 with heap := s2.heap.push { cls := .type "slice", data := .fields #[.none, .none, vk] } } := I2.kept (t' := s2.toks) fun b ob q => Heap.get?_push_of_some _ q
  obtain ⟨its, r, ht, hz⟩ := I4.tuple ha
  have hg : wpAny (model X.prog X.w) X.A (getItem (.ref a) (.ref s2.heap.objs.size)) (EP X pins σ Q) X.xe { s2 with heap := s2.heap.push { cls := .type "slice", data := .fields #[.none, .none, vk] } } := by
    refine getItem_tuple_rev ht (Heap.IsSliceOf.new ..) pk ?_ (by rw [List.size_toArray, ← r.length]; exact hz)
    refine ⟨.ref (s2.heap.push { cls := .type "slice", data := .fields #[.none, .none, vk] }).objs.size, _, I4.laid (t' := s2.toks) (o := .tup xs.reverse) (fun b ob q => Heap.get?_push_of_some _ q) (Nat.le_refl _) ?_, rfl, q _ (I4.hok.fresh (Nat.le_refl _))⟩
    exact ⟨by rw [List.length_reverse]; exact hz, _, r.reverse, IsTup.new _ _⟩
  show wpAny (model X.prog X.w) X.A (subscriptTail e (.Slice none none (some st) p2) (.ref a) (.ref s2.heap.objs.size)) (EP X pins σ Q) X.xe { s2 with heap := s2.heap.push { cls := .type "slice", data := .fields #[.none, .none, vk] } }
  exact tail_any (ops := [.ref a, .ref s2.heap.objs.size]) ht.typeIs PyProof.Rows.slot_tuple_getitem.lookup hg (by with_unfolding_all rfl)
theorem po_m1 : PO X (some (.UnaryOp .USub (.Constant (.int 1) i1 p1) p3)) (tPart (tUn (rU fun i => .int (-i)) (tC (.int 1)))) := po_some (pe_un un_neg pe_int)
theorem po_m1_eq (σ : L2.St) (H : Hp) (Q : Option Int → Hp → Prop) : (tPart (tUn (rU fun i => .int (-i)) (tC (.int 1)))) σ H Q = Q (some (-1)) H := by
  apply propext
  constructor
  · rintro ⟨i, ⟨rfl⟩, j, e, q⟩
    cases e
    exact q
  · intro q
    exact ⟨1, rfl, -1, rfl, q⟩
theorem pe_rT (he : PE X e te) : PE X (.Subscript e (.Slice none none (some (.UnaryOp .USub (.Constant (.int 1) i1 p1) p3)) p2) pos) (tRevT X.K te) := pe_revT (st := .UnaryOp .USub (.Constant (.int 1) i1 p1) p3) (ts := te) he po_m1 po_m1_eq
theorem extend_tuple_any (l : Addr) (items : Array Value) (n : Nat) (b : Addr) (items2 : Array Value) (n2 : Nat) (dd : Option Addr) (ss : Array (Option Value)) (hs0 : ¬(!items.isEmpty && Builtin.List.listTooLong (items.size + items2.size)) = true) (hs1 : items.size ≤ sizeLine) (hs2 : items.size + items2.size ≤ sizeLine + 1) :
    Meets (Builtin.«list.extend» ⟨[.ref l, .ref b], []⟩) (fun _ R s => s.heap.get? l = some { cls := .type "list", dict := none, data := .seq items n, slots := #[] } ∧ s.heap.get? b = some { cls := .type "tuple", dict := dd, data := .seq items2 n2, slots := ss } ∧ R (.ok (.ret Value.none)) { s with heap := s.heap.update l (Obj.mapSeq fun x => x ++ items2), toks := s.toks }) :=
  .of_wp fun prog w A R s h => by
    obtain ⟨hp, g, d, tk, os⟩ := s; obtain ⟨hl, hb, h⟩ := h; have f1 := PySem.AutoSeq1.idx_int; have f2 := PySem.AutoSeq1.sub_tuple_tuple; have f3 := PySem.AutoSeq1.sub_list_list; have f4 := PySem.AutoSeq1.sub_tuple_list; have f5 := PySem.AutoSeq1.sub_list_tuple;
    have hz' : (items ++ items2).size ≤ sizeLine + 1 := by rw [Array.size_append]; exact hs2
    wp_walk using (wpAny_updateSeq hl rfl (hz := hs1) (_hz' := hz')), PySem.AutoSeq1.wpAny_loadPart' hl, PySem.AutoSeq1.wpAny_loadPart' hb; exact ⟨_, rfl, h⟩
/-- xs.extend(t), t a tuple -/
def rExtendT : V → List V → Hp → VK → Prop := fun x vs H Q => ∃ l b xs zs, x = .ref l ∧ vs = [.ref b] ∧ H l = some (.lst xs) ∧ H b = some (.tup zs) ∧ xs.length + zs.length ≤ sizeLine ∧ Q .non (upd H l (.lst (xs ++ zs)))
theorem mt_extendT : MtM X "list.extend" rExtendT := by
  intro pins s σ H x vs v us Q I rx rv h
  obtain ⟨l, b, xs, zs, rfl, rfl, hH, hB, hz, q⟩ := h
  cases rx
  obtain ⟨u, rfl, ru⟩ := rv.one
  cases ru
  obtain ⟨z, its, n, r, hl, e⟩ := I.lstM hH
  obtain ⟨its2, r2, ⟨o, h1, h2, n2, h3⟩, z2⟩ := I.tuple (SqT.of hB)
  have hl2 : zs.length = its2.length := r2.length
  have hsz : its.toArray.size + its2.toArray.size ≤ sizeLine := by rw [List.size_toArray, List.size_toArray]; omega
  have hlong : ¬ (!its.toArray.isEmpty && Builtin.List.listTooLong (its.toArray.size + its2.toArray.size)) = true := by
    rw [notLongL hsz, Bool.and_false]
    exact Bool.false_ne_true
  obtain ⟨oc, od, dt, sl⟩ := o
  simp only at h2 h3
  subst h2 h3
  refine call_meets F.slot_list_extend ⟨_, e, rfl⟩ F.entry_list_extend (F.args_list_extend_2 _ _)
    (extend_tuple_any l its.toArray n b its2.toArray n2 od sl hlong (by rw [List.size_toArray]; omega) (by omega)) ⟨e, h1, ?_⟩
  refine ⟨.non, _, I.lset (its' := its ++ its2) hH e (by simp) (r.append r2) ?_, rfl, q⟩
  rw [List.length_append]
  omega
/-- tuple(d) of a dict with int and text keys: a new tuple of its keys -/
theorem code_tuple_new_kdl {prog : Program} {w : World} {A : Around} {E : Value → Shared → Prop} {s : Shared} {T : String} {r d : Addr} {n : Nat} {P : Nat → Value → Prop} {OK : Heap → Prop} {Q₁ : Value → Shared → Prop}
    (K : PySem.W.KdlSrc prog w T r d n P OK) (hh : A.handled = none) (hok : OK s.heap) (hn : n ≤ sizeLine)
    (h : ∀ (h' : Heap) (tk : Nat) (acc : Array Value), (∀ b o, s.heap.get? b = some o → h'.get? b = some o) → ItemsOf P acc n →
      Q₁ (.ref h'.objs.size) { s with heap := h'.push { cls := .type "tuple", data := .seq acc }, toks := tk }) :
    codeAny (model prog w) A (.call (.builtin "tuple.__new__") ⟨[.type "tuple", .ref r], []⟩) (wants Q₁ E) s := by
  refine codeAny_of_tree ?_
  show wpAny _ A.in1 (do checkBuiltinCall "tuple.__new__" ⟨[.type "tuple", .ref r], []⟩; again (.builtin "tuple.__new__" ⟨[.type "tuple", .ref r], []⟩)) _ _ s
  refine wpAny_bind (wpAny_of_eq (F.newCall_tuple_1 _) (wpAny_pure ⟨plainId_quiet F.plain_tuple_new _, codeAny_builtin F.entry_tuple_new ?_⟩))
  rw [Around.under_plainId F.plain_tuple_new _]
  have hsub := sub_tuple_self
  have hinit := init_tuple_lookup
  have hmh := madeHere_tuple
  have hTI : s.TypeIs (.ref r) T := K.type s hok
  have hnl := K.notList
  have hnt := K.notTuple
  have hh1 : A.in1.handled = none := hh
  wp_walk using wpAny_typeOf hTI, PySem.W.kdu_collect (A := A.in1) K hh1 hok hn
  intro h' tk acc hk hacc
  show wpAny _ _ (Builtin.Tuple.tupleExact acc.toList.toArray >>= fun v => ret v) _ _ _
  unfold Builtin.Tuple.tupleExact
  refine wpAny_bind (wpAny_newObj_type ?_ (by show acc.toList.toArray.size ≤ sizeLine; simp only [Array.toArray_toList]; rw [hacc.1]; exact hn))
  refine wpAny_pure ?_
  have e : acc.toList.toArray = acc := by simp
  rw [e]
  exact h h' tk acc hk hacc
theorem call_tuple_kdl {prog : Program} {w : World} {A : Around} {E : Value → Shared → Prop} {s : Shared} {T : String} {r d : Addr} {n : Nat} {P : Nat → Value → Prop} {OK : Heap → Prop} {Q : Value → Shared → Prop}
    (K : PySem.W.KdlSrc prog w T r d n P OK) (hh : A.handled = none) (hok : OK s.heap) (hn : n ≤ sizeLine)
    (hQ : ∀ (h' : Heap) (tk : Nat) (acc : Array Value), (∀ b o, s.heap.get? b = some o → h'.get? b = some o) → ItemsOf P acc n →
      Q (.ref h'.objs.size) { s with heap := h'.push { cls := .type "tuple", data := .seq acc }, toks := tk }) :
    wpAny (model prog w) A (call (.type "tuple") [.ref r]) Q E s := by
  refine callType_codes (Q₁ := fun obj s₁ => s₁.TypeIs obj "tuple" ∧ Q obj s₁) F.called_tuple (F.typeCall_tuple_1 _) F.entry_object_init
    (code_tuple_new_kdl (A := A.in1) K hh hok hn fun h' tk acc hk hacc => ⟨⟨_, Heap.get?_push_size _ rfl, rfl⟩, hQ h' tk acc hk hacc⟩) fun obj s₁ h₁ => ?_
  exact ⟨h₁.1, F.args_object_init_2 obj _, object_init_meets F.called_tuple.init.lookup F.called_tuple.made (by decide) prog w A.in1 _ s₁ ⟨h₁.1, rfl, h₁.2⟩⟩
def rTupD : List V → Hp → VK → Prop := fun xs H Q => ∃ p kvs, xs = [.ref p] ∧ H p = some (.dK kvs) ∧ ∀ q, H q = none → Q (.ref q) (upd H q (.tup (kvs.map fun kv => kV kv.1)))
theorem call_tuple_dK {X : Cx} (hc : X.calm = true) : CallR X (.type "tuple") rTupD := by
  intro pins s σ H xs us Q I r h
  obtain ⟨p, kvs, e, hk, q⟩ := h
  subst e
  obtain ⟨u, eu, rx⟩ := vals1 r
  subst eu
  obtain rfl : u = Value.ref p := rx
  obtain ⟨z, lo, vs, rk, hd⟩ := (show ObjOk X.prog X.w H s.heap p (.dK kvs) from I.hok p _ hk)
  obtain ⟨ep, hat⟩ := hd.dictAt
  have hl : kvs.length = vs.length := Paired.length rk
  refine call_tuple_kdl (PySem.W.kdl_dict (knd := mixKind X.prog X.w) (kvs := vs) (ep := ep) lo) (I.ok.hd hc) hat (by rw [← hl]; exact z) fun h' tk acc' hkeep hacc => ?_
  have I1 : Inv X pins σ H { s with heap := h', toks := tk } := I.kept (t' := tk) hkeep
  refine ⟨.ref h'.objs.size, upd H h'.objs.size (.tup (kvs.map fun kv => kV kv.1)), I1.laid (t' := tk) (fun b o e => Heap.get?_push_of_some _ e) (Nat.le_refl _) (show ObjOk X.prog X.w _ _ _ (.tup (kvs.map fun kv => kV kv.1)) from ⟨?_, acc'.toList, ?_, ?_⟩), rfl, q _ (I1.hok.fresh (Nat.le_refl _))⟩
  · rw [List.length_map]; exact z
  · have el : acc'.toList.length = acc'.size := by simp
    refine vals_of_at (by rw [List.length_map, el, hacc.1, hl]) fun j x w h1 h2 => ?_
    obtain ⟨k, y, hky, hi⟩ := hacc.2 j w (by rw [← Array.getElem?_toList]; exact h2)
    have e1 : (kvs.map (·.1))[j]? = some k := by
      rw [KV.keys rk, List.getElem?_map, hky] <;> rfl
    have e2 : (kvs.map fun kv => kV kv.1)[j]? = some (kV k) := by
      have e3 : (kvs.map fun kv => kV kv.1) = (kvs.map (·.1)).map kV := by rw [List.map_map] <;> rfl
      rw [e3, List.getElem?_map, e1] <;> rfl
    rw [e2] at h1
    cases h1
    exact keyIs_rel hi
  · rw [Array.toArray_toList]; exact IsTup.new _ _
theorem isi_at {X : Cx} {K : PySem.W.Frag} (h : X.K = K) : CallR X (.builtin "isinstance") (rIsi K) := by
  subst h
  exact call_isi
theorem ixt_at {X : Cx} {K : PySem.W.Frag} (h : X.K = K) : IxR X (rIxT K) := by
  subst h
  exact ix_tup
theorem ixl_at {X : Cx} {K : PySem.W.Frag} (h : X.K = K) : IxR X (rIxL K) := by
  subst h
  exact ix_list
theorem len_at {X : Cx} {K : PySem.W.Frag} (h : X.K = K) : CallR X (.builtin "len") (fun xs H Q => ∃ p ys, xs = [.ref p] ∧ (SqL K H p ys ∨ SqT K H p ys) ∧ Q (.int ys.length) H) := by
  subst h
  exact call_len_seq
theorem yesT {σ : L2.St} {H : Hp} {A B : Hp → Prop} (h : A H) : tYes σ H (fun b H3 => if b = true then A H3 else B H3) := by
  show if true = true then A H else B H
  rw [if_pos rfl]
  exact h
/-- a dict comprehension over a list that stays -/
theorem dc_list {K : PySem.W.Frag} {a : Addr} {xs : List V} {g : TG} {tt : TT} {tk tv : TE} {vs : List Nat} {σ : L2.St} {H1 : Hp} {D : Addr} {Qd : Hp → Prop} (Pv : Nat → Hp → Prop) (h0 : Pv 0 (upd H1 D (.dK []))) (hl : ∀ i H, i ≤ xs.length → Pv i H → SqL K H a xs)
    (hs : ∀ i x H, xs[i]? = some x → Pv i H → g x (wipe σ vs) H fun σ2 H2 => wipe σ2 vs = wipe σ vs ∧ tt σ2 H2 fun b H3 =>
      if b = true then tk σ2 H3 fun y H4 => tv σ2 H4 fun z H5 => ∃ kvs k, y = kV k ∧ H5 D = some (.dK kvs) ∧ kvs.length < sizeLine ∧ Pv (i + 1) (upd H5 D (.dK (putK kvs k z))) else Pv (i + 1) H3) (hd : ∀ H, Pv xs.length H → Qd H) :
    ∃ W : Nat → Nat → Hp → Prop, (∃ m, W 0 m (upd H1 D (.dK []))) ∧ ∀ i m H, W i m H →
      ((Itl K a).stop i H ∧ Qd H) ∨ ((Itl K a).go i H ∧ ∃ Nx : Hp → Prop, (∀ H', Nx H' → ∃ m', m' < m ∧ W (i + 1) m' H') ∧ ∀ x H', (Itl K a).yld i H x H' → g x (wipe σ vs) H' fun σ2 H2 => wipe σ2 vs = wipe σ vs ∧ tt σ2 H2 fun b H3 =>
        if b = true then tk σ2 H3 fun y H4 => tv σ2 H4 fun z H5 => ∃ kvs k, y = kV k ∧ H5 D = some (.dK kvs) ∧ kvs.length < sizeLine ∧ Nx (upd H5 D (.dK (putK kvs k z))) else Nx H3) := by
  refine ⟨fun i m H => m = xs.length - i ∧ i ≤ xs.length ∧ Pv i H, ⟨xs.length, by simp, Nat.zero_le _, h0⟩, ?_⟩
  rintro i m H ⟨rfl, hi, p⟩
  have q := hl i H hi p
  by_cases hlt : i < xs.length
  · refine .inr ⟨⟨xs, xs[i], q, by simp [hlt]⟩, Pv (i + 1), fun H' p' => ⟨xs.length - (i + 1), by omega, rfl, hlt, p'⟩, fun x H' y => ?_⟩
    obtain ⟨e, y⟩ := y
    subst e
    exact hs i x _ (y xs q) p
  · have e : i = xs.length := by omega
    subst e
    exact .inl ⟨⟨xs, q, Nat.le_refl _⟩, hd H p⟩
end
end DF

namespace DF
open PySem PySem.Spec PyProof.Rows L2
section
variable {prog : Program} {w : World} {A : Around} {E : Value → Shared → Prop} {s : Shared}
def selFrom (a n : Int) (k : Nat) : Bool := if (1 : Int) > 0 then decide (a ≤ (k : Int)) && decide ((k : Int) < n) && ((k : Int) - a) % 1 == 0 else decide (n < (k : Int)) && decide ((k : Int) ≤ a) && (a - (k : Int)) % (-1) == 0
theorem selFrom_eq (a n k : Nat) (h : k < n) : selFrom (a : Int) (n : Int) k = decide (a ≤ k) := by
  unfold selFrom
  rw [if_pos (by decide)]
  have h1 : decide ((k : Int) < (n : Int)) = true := decide_eq_true (by omega)
  have h2 : (((k : Int) - (a : Int)) % 1 == 0) = true := by rw [Int.emod_one]; rfl
  rw [h1, h2, Bool.and_true, Bool.and_true]
  by_cases h3 : a ≤ k
  · rw [decide_eq_true h3]
    exact decide_eq_true (by omega)
  · rw [decide_eq_false h3]
    exact decide_eq_false (by omega)
theorem cut_aux (a n : Nat) : ∀ (xs : List Value) (j : Nat), j + xs.length ≤ n → ((xs.zipIdx j).filterMap fun p => if selFrom (a : Int) (n : Int) p.2 = true then none else some p.1) = xs.take (a - j)
  | [], j, _ => by rw [List.zipIdx_nil, List.take_nil]; rfl
  | x :: r, j, h => by
    rw [List.length_cons] at h
    rw [List.zipIdx_cons, List.filterMap_cons, cut_aux a n r (j + 1) (by omega)]
    dsimp only
    rw [selFrom_eq a n j (by omega)]
    by_cases h3 : a ≤ j
    · rw [decide_eq_true h3, if_pos rfl, show a - j = 0 by omega, show a - (j + 1) = 0 by omega, List.take_zero, List.take_zero]
    · rw [decide_eq_false h3, if_neg Bool.false_ne_true, show a - j = (a - (j + 1)) + 1 by omega, List.take_succ_cons]
theorem bounds_from {a n : Nat} (h : a ≤ n) : sliceBounds (some (a : Int)) none none n = ((a : Int), (n : Int), 1) := by
  simp only [sliceBounds, Option.getD_none]
  have h1 : ¬ ((a : Int) < 0) := by omega
  simp only [h1, if_false, show (1 : Int) > 0 by decide, if_true]
  congr 1
  omega
theorem delItem_from {l sl : Addr} {items : Array Value} {n : Nat} {vl : Value} {a : Nat} {Q : Unit → Shared → Prop}
    (e : s.heap.get? l = some { cls := .type "list", data := .seq items n }) (hs : s.heap.IsSliceOf sl vl .none .none) (pl : IsPart vl (some (a : Int))) (ha : a ≤ items.size) (hsz : items.size ≤ sizeLine)
    (h : Q () { s with heap := s.heap.update l (Obj.mapSeq fun xs => (xs.toList.zipIdx.filterMap fun p => if selFrom (a : Int) (items.size : Int) p.2 = true then none else some p.1).toArray) }) :
    wpAny (model prog w) A (delItem (.ref l) (.ref sl)) Q E s := by
  have hl : s.heap.IsList l items := PySem.IsL.isList e
  obtain ⟨os, hos, hcs, hds⟩ := id hs
  have hTs : s.TypeIs (.ref sl) "slice" := ⟨os, hos, hcs⟩
  have hstep : ¬ ((rawPart none == rawInt 0) = true) := Bool.false_ne_true
  have hz' : ((fun xs : Array Value => (xs.toList.zipIdx.filterMap fun p => if selFrom (a : Int) (items.size : Int) p.2 = true then none else some p.1).toArray) items).size ≤ sizeLine + 1 := by
    show (items.toList.zipIdx.filterMap _).toArray.size ≤ _
    rw [List.size_toArray, cut_aux a items.size items.toList 0 (by rw [Array.length_toList]; omega), List.length_take, Array.length_toList]
    omega
  unfold delItem
  try with_reducible refine wpAny_holding ?_
  first | refine wpAny_bind (wpAny_pure ?_) | skip
  refine wpAny_bind (wpAny_sequenceKey hl.typeIs (by decide) ?_)
  refine wpAny_bind (wpAny_callSpecial?_slot (name := Str.ofString "__delitem__") hl.typeIs F.slot_list_delitem
    (wpAny_call_entry F.slot_list_delitem hl.typeIs F.entry_list_delitem ?_ (F.args_list_delitem_2 _ _)))
  show wpAny _ _ (Builtin.List.listSubscript? (.ref sl) >>= _) _ _ s
  refine wpAny_bind ?_
  unfold Builtin.List.listSubscript?
  refine wpAny_bind (wpAny_specialOf hTs slice_no_index ?_)
  simp only [Option.isNone_none, if_true]
  refine wpAny_pure ?_
  show wpAny _ _ (typeOf (.ref sl) >>= _) _ _ s
  refine wpAny_bind (wpAny_typeOf hTs ?_)
  first
    | rw [if_neg (by decide)]
    | refine PySem.W.KFB.if_not (by decide) ?_
  rw [listSliceParts_eq]
  refine wpAny_bind (wpAny_bind (wpAny_field hos hds (x := .none) rfl (wpAny_bind (wpAny_listPart .none ?_))))
  rw [if_neg hstep]
  refine wpAny_bind (wpAny_field hos hds (x := vl) rfl (wpAny_bind (wpAny_listPart pl ?_)))
  refine wpAny_bind (wpAny_field hos hds (x := .none) rfl (wpAny_bind (wpAny_listPart .none (wpAny_pure ?_))))
  dsimp only
  unfold Builtin.List.listItems
  refine wpAny_bind (wpAny_bind (wpAny_seqItems e rfl (wpAny_pure ?_)))
  refine wpAny_bind (wpAny_of_eq ((sliceIndices_raw (some (a : Int)) none none items.size (by simp)).trans (congrArg (pure : Int × Int × Int → Sem (Int × Int × Int)) (bounds_from ha))) ?_)
  refine wpAny_bind (wpAny_rule ?_)
  show wpAny _ _ (updateSeq l (fun xs => (xs.toList.zipIdx.filterMap fun p => if selFrom (a : Int) (items.size : Int) p.2 = true then none else some p.1).toArray) >>= _) _ _ s
  refine wpAny_bind (wpAny_updateSeq (hz := hsz) (_hz' := hz') e rfl ?_)
  refine wpAny_bind (wpAny_letGo ?_)
  first
    | exact wpAny_bind (wpAny_pure (wpAny_pure ⟨.none, rfl, wpAny_pure h⟩))
    | exact wpAny_pure ⟨.none, rfl, wpAny_pure h⟩
end
section
variable {X : Cx} {e o : Expr} {te to : TE} {pos p1 p2 p3 tpos : Pos} {i1 : Nat}
/-- del xs[a:] -/
def tDelFrom (to te : TE) : TS := fun D σ H => to σ H fun x H1 => te σ H1 fun y H2 => ∃ (l : Addr) (xs : List V) (a : Nat), x = .ref l ∧ y = .int (a : Int) ∧ H2 l = some (.lst xs) ∧ a ≤ xs.length ∧ D.nx σ (upd H2 l (.lst (xs.take a)))
theorem ps_delFrom (ho : PE X o to) (hi : PE X e te) : PS X (.Delete [.Subscript o (.Slice (some e) none none p2) tpos] pos) (tDelFrom to te) := by
  refine ⟨fun pins s σ H D I h => ?_⟩
  refine wpAny_Delete (wpAny_deleteEach_cons (wpAny_delete_Subscript (thn (ho.run pins s σ H _ I h) fun u s1 ⟨x, H1, I1, rx, q1⟩ => ?_)))
  refine wpAny_Slice ?_
  rw [evalPart_some]
  refine thn (hi.run pins s1 σ H1 _ I1 q1) fun iv s2 ⟨y, H2, I2, ry, q2⟩ => ?_
  rw [evalPart_none]
  refine wpAny_pure (wpAny_pure ?_)
  obtain ⟨l, xs, a, ex, ey, hH, ha, q2⟩ := q2
  subst ex
  subst ey
  cases (show u = Value.ref l from rx)
  obtain ⟨t, rfl⟩ := (show ∃ t, iv = Value.int (a : Int) t from ry)
  have I4 : Inv X pins σ H2 { s2 with heap := s2.heap.push { cls := .type "slice", data := .fields #[.int (a : Int) t, .none, .none] } } := I2.kept (t' := s2.toks) fun b ob q => Heap.get?_push_of_some _ q
  obtain ⟨z, its, n, r, hl, hg⟩ := I4.lstM hH
  refine delItem_from hg (Heap.IsSliceOf.new ..) (.int _ t) (by rw [List.size_toArray, ← hl]; exact ha) (by rw [List.size_toArray]; omega) ?_
  refine wpAny_deleteEach_nil ⟨σ, _, I4.lset (its' := its.take a) (t' := s2.toks) hH hg ?_ (r.take a) ?_, q2⟩
  · show (its.toArray.toList.zipIdx.filterMap _).toArray = (its.take a).toArray
    rw [List.size_toArray, cut_aux a its.length its 0 (by omega), Nat.sub_zero]
  · rw [List.length_take]
    omega
/-- xs[::-1] of a list: a new list -/
def tRevL (K : PySem.W.Frag) (te : TE) : TE := fun σ H Q => te σ H fun x H1 => ∃ a xs, x = .ref a ∧ SqL K H1 a xs ∧ ∀ p, H1 p = none → Q (.ref p) (upd H1 p (.lst xs.reverse))
theorem pe_revL {st : Expr} {ts' : TO} (he : PE X e te) (hs : PO X (some st) ts') (h1 : ∀ σ H Q, ts' σ H Q = Q (some (-1)) H) : PE X (.Subscript e (.Slice none none (some st) p2) pos) (tRevL X.K te) := by
  refine ⟨fun pins s σ H Q I h => ?_⟩
  refine Subscript_ (thn (he.run pins s σ H _ I h) fun v s1 ⟨x, H1, I1, r1, q1⟩ => ?_)
  refine wpAny_Slice ?_
  rw [evalPart_none]
  refine wpAny_pure (wpAny_pure (thn (hs.run pins s1 σ H1 (fun o H' => o = some (-1) ∧ H' = H1) I1 (by rw [h1]; exact ⟨rfl, rfl⟩)) fun vk s2 ⟨o, H2, I2, pk, eo, eH⟩ => ?_))
  subst eo eH
  obtain ⟨a, xs, rfl, ha, q⟩ := q1
  cases r1
  have I4 : Inv X pins σ H2 { s2 with heap := s2.heap.push { cls := .type "slice", data := .fields #[.none, .none, vk] } } := I2.kept (t' := s2.toks) fun b ob q => Heap.get?_push_of_some _ q
  obtain ⟨its, r, ht, hz⟩ := I4.list ha
  have hg : wpAny (model X.prog X.w) X.A (getItem (.ref a) (.ref s2.heap.objs.size)) (EP X pins σ Q) X.xe { s2 with heap := s2.heap.push { cls := .type "slice", data := .fields #[.none, .none, vk] } } := by
    refine wpAny_getItem_list_slice ht.isList (Heap.IsSliceOf.new ..) .none .none pk (by simp) ?_ (by rw [List.size_toArray, ← r.length]; exact hz)
    rw [PySem.W.krv_pick]
    refine ⟨.ref (s2.heap.push { cls := .type "slice", data := .fields #[.none, .none, vk] }).objs.size, _, I4.laid (t' := s2.toks) (o := .lst xs.reverse) (fun b ob q => Heap.get?_push_of_some _ q) (Nat.le_refl _) ?_, rfl, q _ (I4.hok.fresh (Nat.le_refl _))⟩
    exact ⟨by rw [List.length_reverse]; exact hz, _, 0, r.reverse, Heap.get?_push_size _ rfl⟩
  show wpAny (model X.prog X.w) X.A (subscriptTail e (.Slice none none (some st) p2) (.ref a) (.ref s2.heap.objs.size)) (EP X pins σ Q) X.xe { s2 with heap := s2.heap.push { cls := .type "slice", data := .fields #[.none, .none, vk] } }
  exact tail_any (ops := [.ref a, .ref s2.heap.objs.size]) ht.isList.typeIs slot_list_getitem.lookup hg (by with_unfolding_all rfl)
theorem pe_rL (he : PE X e te) : PE X (.Subscript e (.Slice none none (some (.UnaryOp .USub (.Constant (.int 1) i1 p1) p3)) p2) pos) (tRevL X.K te) := pe_revL (st := .UnaryOp .USub (.Constant (.int 1) i1 p1) p3) he po_m1 po_m1_eq
theorem notin_at {X : Cx} {K : PySem.W.Frag} (h : X.K = K) : OpR X (compareOp .NotIn) (rIn K true) := by
  subst h
  exact op_notIn_seq
end
end DF

namespace DF
open PySem L2
/-! ### put -/
def Tm.appl (t : Tm) (ts : List Tm) : Tm := .mk t.hd (t.args ++ ts)
def look (ps : List (Int × Tm)) : Key → Option Tm
  | .inl i => (ps.find? fun p => decide (p.1 = i)).map (·.2)
  | .inr _ => none
def sub (ps : List (Int × Tm)) (k : Key) : Tm := (look ps k).getD (.mk k [])
mutual
def Tm.put (ps : List (Int × Tm)) : Tm → Tm
  | .mk h ts => (sub ps h).appl (Tm.putL ps ts)
def Tm.putL (ps : List (Int × Tm)) : List Tm → List Tm
  | [] => []
  | t :: r => t.put ps :: Tm.putL ps r
end
theorem Tm.putL_map (ps : List (Int × Tm)) : ∀ ts : List Tm, Tm.putL ps ts = ts.map (Tm.put ps)
  | [] => rfl
  | t :: r => by rw [Tm.putL, Tm.putL_map ps r, List.map_cons]
theorem sub_nil (k : Key) : sub [] k = .mk k [] := by cases k <;> rfl
mutual
theorem Tm.put_nil : ∀ t : Tm, t.put [] = t
  | .mk h ts => by
    rw [Tm.put, Tm.putL_nil ts, sub_nil]
    rfl
theorem Tm.putL_nil : ∀ ts : List Tm, Tm.putL [] ts = ts
  | [] => rfl
  | t :: r => by rw [Tm.putL, Tm.put_nil t, Tm.putL_nil r]
end
/-! ### rows -/
def step (S : List Tm) (r : Tm × Nat) : List Tm := S.take (S.length - r.2) ++ [r.1.appl (S.drop (S.length - r.2)).reverse]
def run : List (Tm × Nat) → List Tm
  | [] => []
  | r :: rest => step (run rest) r
def Wf : List (Tm × Nat) → Prop
  | [] => True
  | r :: rest => r.2 ≤ (run rest).length ∧ Wf rest
theorem run_length : ∀ rows : List (Tm × Nat), (run rows).length ≤ rows.length
  | [] => Nat.le_refl _
  | r :: rest => by
    have h := run_length rest
    show (step (run rest) r).length ≤ rest.length + 1
    unfold step
    rw [List.length_append, List.length_take]
    show _ + 1 ≤ _
    omega
def rowsOf (f : Key → Tm) (ts : List Tm) : List (Tm × Nat) := ts.map fun t => (f t.hd, t.args.length)
theorem putL_length (ps : List (Int × Tm)) (ts : List Tm) : (Tm.putL ps ts).length = ts.length := by rw [Tm.putL_map, List.length_map]
theorem step_args (R : List Tm) (t : Tm) (as : List Tm) : step (R ++ as.reverse) (t, as.length) = R ++ [t.appl as] := by
  unfold step
  have e : (R ++ as.reverse).length - as.length = R.length := by rw [List.length_append, List.length_reverse]; omega
  rw [e, List.take_left, List.drop_left, List.reverse_reverse]
mutual
theorem run_pre (ps : List (Int × Tm)) : ∀ (t : Tm) (R : List (Tm × Nat)), Wf R → run (rowsOf (sub ps) t.pre ++ R) = run R ++ [t.put ps] ∧ Wf (rowsOf (sub ps) t.pre ++ R)
  | .mk h ts, R, hw => by
    have ih := run_preL ps ts R hw
    have e : rowsOf (sub ps) (Tm.mk h ts).pre ++ R = (sub ps h, ts.length) :: (rowsOf (sub ps) (Tm.preL ts) ++ R) := by
      rw [Tm.pre]
      rfl
    rw [e, run, ih.1, Tm.put]
    constructor
    · have := step_args (run R) (sub ps h) (Tm.putL ps ts)
      rw [putL_length] at this
      exact this
    · refine ⟨?_, ih.2⟩
      rw [ih.1, List.length_append, List.length_reverse, putL_length]
      exact Nat.le_add_left _ _
theorem run_preL (ps : List (Int × Tm)) : ∀ (ts : List Tm) (R : List (Tm × Nat)), Wf R → run (rowsOf (sub ps) (Tm.preL ts) ++ R) = run R ++ (Tm.putL ps ts).reverse ∧ Wf (rowsOf (sub ps) (Tm.preL ts) ++ R)
  | [], R, hw => by
    rw [Tm.preL, Tm.putL, List.reverse_nil, List.append_nil]
    exact ⟨rfl, hw⟩
  | t :: r, R, hw => by
    have ih := run_preL ps r R hw
    have ih2 := run_pre ps t (rowsOf (sub ps) (Tm.preL r) ++ R) ih.2
    have e : rowsOf (sub ps) (Tm.preL (t :: r)) ++ R = rowsOf (sub ps) t.pre ++ (rowsOf (sub ps) (Tm.preL r) ++ R) := by
      rw [Tm.preL]
      unfold rowsOf
      rw [List.map_append, List.append_assoc]
    rw [e, ih2.1, ih.1, Tm.putL, List.reverse_cons, List.append_assoc]
    exact ⟨rfl, ih2.2⟩
end
theorem run_all (ps : List (Int × Tm)) (t : Tm) : run (rowsOf (sub ps) t.pre) = [t.put ps] ∧ Wf (rowsOf (sub ps) t.pre) := by
  have h := run_pre ps t [] True.intro
  rw [List.append_nil] at h
  exact h
/-! ### depth -/
mutual
theorem Tm.dat_high : ∀ t : Tm, t.dat.deep ≤ 2 * t.high
  | .mk h ts => by
    rw [Tm.dat, Dt.deep, Dt.deepL, Dt.deepL, Dt.deepL, Dt.deep, Dt.deep, Tm.high]
    have h1 := Tm.datL_high ts
    omega
theorem Tm.datL_high : ∀ ts : List Tm, Dt.deepL (Tm.datL ts) ≤ 2 * Tm.highL ts
  | [] => Nat.le_refl _
  | t :: r => by
    rw [Tm.datL, Dt.deepL, Tm.highL]
    have h1 := Tm.dat_high t
    have h2 := Tm.datL_high r
    omega
end
theorem Tm.highL_append : ∀ a b : List Tm, Tm.highL (a ++ b) = max (Tm.highL a) (Tm.highL b)
  | [], b => by rw [List.nil_append, Tm.highL]; omega
  | t :: r, b => by rw [List.cons_append, Tm.highL, Tm.highL, Tm.highL_append r b]; omega
theorem Tm.appl_high (t : Tm) (ts : List Tm) : (t.appl ts).high ≤ max t.high (Tm.highL ts + 1) := by
  cases t with
  | mk h us =>
    show (Tm.mk h (us ++ ts)).high ≤ _
    rw [Tm.high, Tm.highL_append, Tm.high]
    omega
theorem sub_high {ps : List (Int × Tm)} {m : Nat} (h : ∀ p ∈ ps, p.2.high ≤ m) (hm : 1 ≤ m) (k : Key) : (sub ps k).high ≤ m := by
  unfold sub
  cases e : look ps k with
  | none =>
    show (Tm.mk k []).high ≤ m
    rw [Tm.high, Tm.highL]
    exact hm
  | some u =>
    cases k with
    | inr x => cases e
    | inl i =>
      have e : (ps.find? fun p => decide (p.1 = i)).map (·.2) = some u := e
      cases e2 : ps.find? fun p => decide (p.1 = i) with
      | none =>
        rw [e2] at e
        cases e
      | some p =>
        rw [e2] at e
        cases e
        exact h p (List.mem_of_find?_eq_some e2)
mutual
theorem Tm.put_high {ps : List (Int × Tm)} {m : Nat} (h : ∀ p ∈ ps, p.2.high ≤ m) (hm : 1 ≤ m) : ∀ t : Tm, (t.put ps).high ≤ t.high + m
  | .mk k ts => by
    rw [Tm.put, Tm.high]
    have h1 := Tm.appl_high (sub ps k) (Tm.putL ps ts)
    have h2 := sub_high h hm k
    have h3 := Tm.putL_high h hm ts
    omega
theorem Tm.putL_high {ps : List (Int × Tm)} {m : Nat} (h : ∀ p ∈ ps, p.2.high ≤ m) (hm : 1 ≤ m) : ∀ ts : List Tm, Tm.highL (Tm.putL ps ts) ≤ Tm.highL ts + m
  | [] => Nat.zero_le _
  | t :: r => by
    rw [Tm.putL, Tm.highL, Tm.highL]
    have h1 := Tm.put_high h hm t
    have h2 := Tm.putL_high h hm r
    omega
end
/-! ### parts and rows in the heap -/
def partD (p : Int × Tm) : Dt := .tup [.key (.inl p.1), p.2.dat]
def rowD (r : Tm × Nat) : Dt := .tup [r.1.dat, .key (.inl (r.2 : Int))]
theorem partD_inv {K : PySem.W.Frag} {H : Hp} {v : V} {p : Int × Tm} (h : DAt K H v (partD p)) : ∃ a u, v = .ref a ∧ SqT K H a [.int p.1, u] ∧ TAt K H u p.2 := by
  obtain ⟨a, vs, rfl, s, q, z⟩ := h.tup_inv
  cases q with
  | cons q1 q =>
    cases q with
    | cons q2 q =>
      cases q
      rw [q1.key_inv] at s
      exact ⟨a, _, rfl, s, q2⟩
theorem rowD_inv {K : PySem.W.Frag} {H : Hp} {v : V} {r : Tm × Nat} (h : DAt K H v (rowD r)) : ∃ a u, v = .ref a ∧ SqT K H a [u, .int (r.2 : Int)] ∧ TAt K H u r.1 := by
  obtain ⟨a, vs, rfl, s, q, z⟩ := h.tup_inv
  cases q with
  | cons q1 q =>
    cases q with
    | cons q2 q =>
      cases q
      rw [q2.key_inv] at s
      exact ⟨a, _, rfl, s, q1⟩
theorem partD_of {K : PySem.W.Frag} {H : Hp} {a : Addr} {u : V} {p : Int × Tm} (s : SqT K H a [.int p.1, u]) (h : TAt K H u p.2) : DAt K H (.ref a) (partD p) := .tup s (.cons (.key (k := .inl p.1)) (.cons h .nil)) (by show 2 ≤ 1000000; decide)
theorem rowD_of {K : PySem.W.Frag} {H : Hp} {a : Addr} {u : V} {r : Tm × Nat} (s : SqT K H a [u, .int (r.2 : Int)]) (h : TAt K H u r.1) : DAt K H (.ref a) (rowD r) := .tup s (.cons h (.cons (.key (k := .inl (r.2 : Int))) .nil)) (by show 2 ≤ 1000000; decide)
end DF

namespace DF
open PySem L2
def topS (i : Nat) : Stmt := PySem.Challenge.pw_drivefold_k02_parts_put_in.main.body.getD i (.Pass ⟨0, 0, 0, 0⟩)
abbrev s_places : Stmt := topS 1
abbrev s_assembled : Stmt := topS 2
abbrev s_applied : Stmt := topS 3
abbrev s_put : Stmt := topS 4
abbrev s_g_pick : Stmt := topS 6
abbrev s_g_same : Stmt := topS 7
abbrev s_g_name : Stmt := topS 8
abbrev s_g_head : Stmt := topS 9
abbrev s_g_pool : Stmt := topS 10
abbrev s_g_any : Stmt := topS 11
abbrev s_g_deep : Stmt := topS 12
abbrev s_g_chain : Stmt := topS 13
abbrev s_g_term : Stmt := topS 14
abbrev s_g_heads : Stmt := topS 15
abbrev s_g_once : Stmt := topS 16
abbrev s_g_put : Stmt := topS 17
abbrev s_g_parts : Stmt := topS 18
abbrev s_law : Stmt := topS 19
theorem sc_places : FnScope ["term", "found", "waiting", "part"] ["term"] (defScope s_places) := ⟨rfl, rfl, rfl, by decide +kernel, rfl, by decide +kernel, by decide +kernel⟩
theorem sc_assembled : FnScope ["rows", "built", "part", "count", "at", "arguments"] ["rows"] (defScope s_assembled) := ⟨rfl, rfl, rfl, by decide +kernel, rfl, by decide +kernel, by decide +kernel⟩
theorem sc_applied : FnScope ["term", "arguments"] ["term", "arguments"] (defScope s_applied) := ⟨rfl, rfl, rfl, by decide +kernel, rfl, by decide +kernel, by decide +kernel⟩
theorem sc_put : FnScope ["term", "parts", "unknown", "part", "part_of", "head", "arguments"] ["term", "parts"] (defScope s_put) := ⟨rfl, rfl, rfl, by decide +kernel, rfl, by decide +kernel, by decide +kernel⟩
theorem sc_g_pick : FnScope ["state", "script", "many", "number", "place", "cell"] ["state", "script", "many"] (defScope s_g_pick) := ⟨rfl, rfl, rfl, by decide +kernel, rfl, by decide +kernel, by decide +kernel⟩
theorem sc_g_same : FnScope ["actual", "due", "k"] ["actual", "due"] (defScope s_g_same) := ⟨rfl, rfl, rfl, by decide +kernel, rfl, by decide +kernel, by decide +kernel⟩
theorem sc_g_name : FnScope ["state", "script", "large", "small", "chars", "size", "word", "k"] ["state", "script", "large"] (defScope s_g_name) := ⟨rfl, rfl, rfl, by decide +kernel, rfl, by decide +kernel, by decide +kernel⟩
theorem sc_g_head : FnScope ["state", "script", "pool", "choice"] ["state", "script", "pool"] (defScope s_g_head) := ⟨rfl, rfl, rfl, by decide +kernel, rfl, by decide +kernel, by decide +kernel⟩
theorem sc_g_pool : FnScope ["state", "script", "k"] ["state", "script"] (defScope s_g_pool) := ⟨rfl, rfl, rfl, by decide +kernel, rfl, by decide +kernel, by decide +kernel⟩
theorem sc_g_any : FnScope ["state", "script", "pool", "depth", "head", "arguments", "many", "k"] ["state", "script", "pool", "depth"] (defScope s_g_any) := ⟨rfl, rfl, rfl, by decide +kernel, rfl, by decide +kernel, by decide +kernel⟩
theorem sc_g_deep : FnScope ["state", "script", "pool", "many", "term", "k", "arguments"] ["state", "script", "pool", "many"] (defScope s_g_deep) := ⟨rfl, rfl, rfl, by decide +kernel, rfl, by decide +kernel, by decide +kernel⟩
theorem sc_g_chain : FnScope ["state", "script", "pool", "many", "term", "k"] ["state", "script", "pool", "many"] (defScope s_g_chain) := ⟨rfl, rfl, rfl, by decide +kernel, rfl, by decide +kernel, by decide +kernel⟩
theorem sc_g_term : FnScope ["state", "script", "pool", "most"] ["state", "script", "pool", "most"] (defScope s_g_term) := ⟨rfl, rfl, rfl, by decide +kernel, rfl, by decide +kernel, by decide +kernel⟩
theorem sc_g_heads : FnScope ["term", "found", "argument"] ["term"] (defScope s_g_heads) := ⟨rfl, rfl, rfl, by decide +kernel, rfl, by decide +kernel, by decide +kernel⟩
theorem sc_g_once : FnScope ["heads", "found", "head"] ["heads"] (defScope s_g_once) := ⟨rfl, rfl, rfl, by decide +kernel, rfl, by decide +kernel, by decide +kernel⟩
theorem sc_g_put : FnScope ["term", "parts", "argument", "arguments", "unknown", "part"] ["term", "parts"] (defScope s_g_put) := ⟨rfl, rfl, rfl, by decide +kernel, rfl, by decide +kernel, by decide +kernel⟩
theorem sc_g_parts : FnScope ["state", "script", "pool", "term", "most", "head", "unknowns", "parts", "unknown", "part", "turn"] ["state", "script", "pool", "term", "most"] (defScope s_g_parts) := ⟨rfl, rfl, rfl, by decide +kernel, rfl, by decide +kernel, by decide +kernel⟩
theorem sc_law : FnScope ["script", "state", "pool", "k", "term", "parts", "kept", "j", "more"] ["script"] (defScope s_law) := ⟨rfl, rfl, rfl, by decide +kernel, rfl, by decide +kernel, by decide +kernel⟩
structure DefAt (K : PySem.W.Frag) (mg : Str → Option Value) (x : Str) (st : Stmt) (ps : List Str) (f : Addr) (fd : FuncData) : Prop where
  F : Fun K x x st f fd
  b : Binds K fd ps []
  m : mg x = some (.ref f)
structure Txt (K : PySem.W.Frag) (mg : Str → Option Value) where
  f_places : Addr
  fd_places : FuncData
  d_places : DefAt K mg "places" s_places ["term"] f_places fd_places
  f_assembled : Addr
  fd_assembled : FuncData
  d_assembled : DefAt K mg "assembled" s_assembled ["rows"] f_assembled fd_assembled
  f_applied : Addr
  fd_applied : FuncData
  d_applied : DefAt K mg "applied" s_applied ["term", "arguments"] f_applied fd_applied
  f_put : Addr
  fd_put : FuncData
  d_put : DefAt K mg "put" s_put ["term", "parts"] f_put fd_put
  f_g_pick : Addr
  fd_g_pick : FuncData
  d_g_pick : DefAt K mg "_law_pick" s_g_pick ["state", "script", "many"] f_g_pick fd_g_pick
  f_g_same : Addr
  fd_g_same : FuncData
  d_g_same : DefAt K mg "_law_same" s_g_same ["actual", "due"] f_g_same fd_g_same
  f_g_name : Addr
  fd_g_name : FuncData
  d_g_name : DefAt K mg "_law_name" s_g_name ["state", "script", "large"] f_g_name fd_g_name
  f_g_head : Addr
  fd_g_head : FuncData
  d_g_head : DefAt K mg "_law_head" s_g_head ["state", "script", "pool"] f_g_head fd_g_head
  f_g_pool : Addr
  fd_g_pool : FuncData
  d_g_pool : DefAt K mg "_law_pool" s_g_pool ["state", "script"] f_g_pool fd_g_pool
  f_g_any : Addr
  fd_g_any : FuncData
  d_g_any : DefAt K mg "_law_any" s_g_any ["state", "script", "pool", "depth"] f_g_any fd_g_any
  f_g_deep : Addr
  fd_g_deep : FuncData
  d_g_deep : DefAt K mg "_law_deep" s_g_deep ["state", "script", "pool", "many"] f_g_deep fd_g_deep
  f_g_chain : Addr
  fd_g_chain : FuncData
  d_g_chain : DefAt K mg "_law_chain" s_g_chain ["state", "script", "pool", "many"] f_g_chain fd_g_chain
  f_g_term : Addr
  fd_g_term : FuncData
  d_g_term : DefAt K mg "_law_term" s_g_term ["state", "script", "pool", "most"] f_g_term fd_g_term
  f_g_heads : Addr
  fd_g_heads : FuncData
  d_g_heads : DefAt K mg "_law_heads" s_g_heads ["term"] f_g_heads fd_g_heads
  f_g_once : Addr
  fd_g_once : FuncData
  d_g_once : DefAt K mg "_law_once" s_g_once ["heads"] f_g_once fd_g_once
  f_g_put : Addr
  fd_g_put : FuncData
  d_g_put : DefAt K mg "_law_put" s_g_put ["term", "parts"] f_g_put fd_g_put
  f_g_parts : Addr
  fd_g_parts : FuncData
  d_g_parts : DefAt K mg "_law_parts" s_g_parts ["state", "script", "pool", "term", "most"] f_g_parts fd_g_parts
  f_law : Addr
  fd_law : FuncData
  d_law : DefAt K mg "law" s_law ["script"] f_law fd_law
  z_len : mg "len" = none
  z_tuple : mg "tuple" = none
  z_isinstance : mg "isinstance" = none
  z_int : mg "int" = none
  z_str : mg "str" = none
  z_bool : mg "bool" = none
  z_range : mg "range" = none
  z_abs : mg "abs" = none
  z_list : mg "list" = none
  z_reversed : mg "reversed" = none
/-! ### _law_pick -/
def spPick (K : PySem.W.Frag) : Sp := fun vs H Q _ => ∃ (st sc : Addr) (ns : List Int) (d many : Int), vs = [.ref st, .ref sc, .int many] ∧ SOk K H st sc ns d ∧ ns.length ≤ 63 ∧ 0 < many ∧ many < 1073741824 ∧
  ∀ (H' : Hp) (r : Int), Keep st H H' → SOk K H' st sc ns d → 0 ≤ r → r < many → Q (.int r) H'
theorem set4 {a b c d : V} : (List.set [a, b, c, d] 0 = fun v => [v, b, c, d]) ∧ (List.set [a, b, c, d] 1 = fun v => [a, v, c, d]) ∧ (List.set [a, b, c, d] 2 = fun v => [a, b, v, d]) ∧ (List.set [a, b, c, d] 3 = fun v => [a, b, c, v]) := ⟨rfl, rfl, rfl, rfl⟩
section
variable {P : Program} {w : World} {K : PySem.W.Frag} {mg : Str → Option Value} {base : Heap}
theorem ok_g_pick (T : Txt K mg) : FnOk P w K mg base CX0 1 T.f_g_pick T.fd_g_pick ["state", "script", "many"] (spPick K) := by
  refine T.d_g_pick.F.ok sc_g_pick (fun vs H Q E h => ?_) (fun cdv A outer s H vs Q E hr h => ?_)
  · obtain ⟨st, sc, ns, d, many, rfl, _⟩ := h
    rfl
  obtain ⟨st, sc, ns, d, many, rfl, S, h63, m0, m1, q⟩ := h
  have nd := sc_g_pick.nd
  refine ⟨_, pss_cons (ps_if (pt_cmpR op_gt (pe_ix ix_list (pv 0) pe_int (fun _ _ => rfl)) pe_int (nomark _))
      (pss_cons (ps_set (i := 3) nd rfl (.inl rfl) (pe_op op_mod (pe_callTy call_int1 (by rfl) T.z_int (by decide +kernel) (pa_cons (pe_ix ix_list (pv 0) pe_int (fun _ _ => rfl)) pa_nil)) (pv 2)))
      (pss_cons (ps_asg (pe_op op_fdiv (pe_ix ix_list (pv 0) pe_int (fun _ _ => rfl)) (pv 2)) (pg_sub (pv 0) pe_int set_list))
      (pss_one (ps_ret (pv 3))))) pss_nil)
    (pss_cons (ps_set (i := 4) nd rfl (.inl rfl) (pe_ix ix_list (pv 0) pe_int (fun _ _ => rfl)))
    (pss_cons (ps_asg (pe_op op_add (pv 4) pe_int) (pg_sub (pv 0) pe_int set_list))
    (pss_cons (ps_if (pt_cmpR op_lt (pv 4) (pe_callB call_len_seq (by rfl) T.z_len PySem.boot_len (pa_cons (pv 1) pa_nil)) (nomark _))
      (pss_cons (ps_set (i := 5) nd rfl (.inl rfl) (pe_callB call_abs (by rfl) T.z_abs (by decide +kernel) (pa_cons (pe_callTy call_int1 (by rfl) T.z_int (by decide +kernel) (pa_cons (pe_ix ix_list (pv 1) (pv 4) (fun _ _ => rfl)) pa_nil)) pa_nil)))
      (pss_cons (ps_if (pt_cmpR op_ge (pv 5) (pe_op op_pow pe_int pe_int) (nomark _))
        (pss_cons (ps_asg (pe_op op_fdiv (pv 5) (pv 2)) (pg_sub (pv 0) pe_int set_list))
        (pss_one (ps_ret (pe_op op_mod (pe_callTy call_int1 (by rfl) T.z_int (by decide +kernel) (pa_cons (pv 5) pa_nil)) (pv 2))))) pss_nil)
      (pss_one (ps_asg (pe_op op_mod (pe_callTy call_int1 (by rfl) T.z_int (by decide +kernel) (pa_cons (pe_op op_add (pe_op op_add (pe_op op_mul (pe_ix ix_list (pv 0) pe_int (fun _ _ => rfl)) pe_int) (pe_op op_mul (pv 5) pe_int)) pe_int) pa_nil)) pe_int) (pg_sub (pv 0) pe_int set_list))))) pss_nil)
    (pss_cons (ps_asg (pe_op op_mod (pe_callTy call_int1 (by rfl) T.z_int (by decide +kernel) (pa_cons (pe_op op_add (pe_op op_add (pe_op op_mul (pe_ix ix_list (pv 0) pe_int (fun _ _ => rfl)) pe_int) (pe_op op_mul pe_int (pv 4))) pe_int) pa_nil)) pe_int) (pg_sub (pv 0) pe_int set_list))
    (pss_one (ps_ret (pe_op op_mod (pe_callTy call_int1 (by rfl) T.z_int (by decide +kernel) (pa_cons (pe_op op_fdiv (pe_op op_mul (pe_ix ix_list (pv 0) pe_int (fun _ _ => rfl)) (pe_ix ix_list (pv 0) pe_int (fun _ _ => rfl))) pe_int) pa_nil)) (pv 2)))))))), ?_⟩
  obtain ⟨a, b, c, e, a0, b0, c0, c1⟩ := S.state
  have d1 : CDiv b many := ⟨m0, m1⟩
  refine ⟨_, rfl, st, _, _, _, rfl, rfl, SqL.of e, atI_nat (j := 1) rfl, _, _, rfl, rfl, _, rfl, ite2 (fun hb => ?_) (fun hb => ?_)⟩
  · -- number = int(state[1]) % many; state[1] = state[1] // many; return number
    have e2 : (upd H st (.lst [.int a, .int (b / many), .int c, .int d])) st = some (.lst [.int a, .int (b / many), .int c, .int d]) := upd_same
    refine ⟨_, rfl, st, _, _, _, rfl, rfl, SqL.of e, atI_nat (j := 1) rfl, .inl ⟨_, rfl, _, rfl, _, _, rfl, rfl, m0, ?_⟩⟩
    refine ⟨_, rfl, st, _, _, _, rfl, rfl, SqL.of e, atI_nat (j := 1) rfl, _, rfl, _, _, rfl, rfl, d1, _, rfl, st, _, _, 1, rfl, rfl, e, rfl, ?_⟩
    refine ⟨_, rfl, ?_⟩
    exact q _ _ (Keep.put _) ⟨⟨_, _, _, e2, a0, Int.ediv_nonneg b0 (Int.le_of_lt m0), c0, c1⟩, S.scr.keep (Keep.put _)⟩ (Int.emod_nonneg _ (Int.ne_of_gt m0)) (Int.emod_lt_of_pos _ m0)
  · -- place = state[0]; state[0] = place + 1
    refine ⟨_, rfl, st, _, _, _, rfl, rfl, SqL.of e, atI_nat (j := 0) rfl, ?_⟩
    refine ⟨_, rfl, _, _, rfl, rfl, _, rfl, st, _, _, 0, rfl, rfl, e, rfl, ?_⟩
    have k1 : Keep st H (upd H st (.lst [.int (a + 1), .int b, .int c, .int d])) := Keep.put _
    have e1 : (upd H st (.lst [.int (a + 1), .int b, .int c, .int d])) st = some (.lst [.int (a + 1), .int b, .int c, .int d]) := upd_same
    show _
    generalize hH1 : upd H st (.lst [.int (a + 1), .int b, .int c, .int d]) = H1 at k1 e1
    have hx : upd H st (HO.lst (List.set [V.int a, .int b, .int c, .int d] 0 (.int (a + 1)))) = H1 := hH1
    rw [hx]
    have hS := (S.scr.keep k1).here
    have c48 : ∀ z : Int, CMul z 48271 := fun z => .inr ⟨by decide, by decide⟩
    have c40 : ∀ z : Int, CMul z 40014 := fun z => .inr ⟨by decide, by decide⟩
    have c69 : ∀ z : Int, CMul z 69621 := fun z => .inr ⟨by decide, by decide⟩
    have c11 : ∀ z : Int, CMul 11 z := fun z => .inl ⟨by decide, by decide⟩
    have d8 : ∀ z : Int, CDiv z 8191 := fun z => ⟨by decide, by decide⟩
    have p1 : (0 : Int) < 2147483563 := by decide
    have p2 : (0 : Int) < 2147483647 := by decide
    -- the end: state[2] = ..; return ..
    have fin : ∀ (c : Int) (H2 : Hp), Keep st H H2 → H2 st = some (.lst [.int (a + 1), .int b, .int c, .int d]) →
        ∀ (c2 : Int), c2 = (c * 48271 + 11 * a + 5) % 2147483647 → (CMul c2 c2) ∧ ∀ r, r = (c2 * c2 / 8191) % many → Q (.int r) (upd H2 st (.lst [.int (a + 1), .int b, .int c2, .int d])) := by
      intro c H2 k2 e2 c2 ec
      have h0 : 0 ≤ c2 := by rw [ec]; exact Int.emod_nonneg _ (by decide)
      have h1 : c2 < 2147483647 := by rw [ec]; exact Int.emod_lt_of_pos _ (by decide)
      refine ⟨.inl ⟨by omega, by omega⟩, fun r er => ?_⟩
      subst er
      have k3 := k2.trans (Keep.put (st := st) (H := H2) (.lst [.int (a + 1), .int b, .int c2, .int d]))
      exact q _ _ k3 ⟨⟨_, _, _, upd_same, by omega, b0, h0, h1⟩, S.scr.keep k3⟩ (Int.emod_nonneg _ (Int.ne_of_gt m0)) (Int.emod_lt_of_pos _ m0)
    refine ⟨_, rfl, _, rfl, sc, _, rfl, .inl hS, _, _, rfl, rfl, _, rfl, ite2 (fun hlt => ?_) (fun hlt => ?_)⟩
    · -- cell = abs(int(script[place]))
      have hl : a < ((ns.map V.int).length : Int) := of_decide_eq_true hlt
      rw [List.length_map] at hl
      have hk : a.toNat < ns.length := by omega
      have ea : a = ((a.toNat : Nat) : Int) := by omega
      have hat : atI (ns.map V.int) a = some (.int ns[a.toNat]) := at_of ea (by rw [List.getElem?_map, List.getElem?_eq_getElem hk]; rfl)
      generalize hz : ns[a.toNat] = z at hat
      refine ⟨_, rfl, _, rfl, sc, _, _, _, rfl, rfl, hS, hat, .inl ⟨_, rfl, _, rfl, ?_⟩⟩
      have w0 : 0 ≤ (if z < 0 then -z else z) := by split <;> omega
      generalize (if z < 0 then -z else z) = cell at w0
      refine ⟨_, rfl, _, _, rfl, rfl, ⟨by decide, by decide, by decide⟩, _, _, rfl, rfl, _, rfl, ite2 (fun hb => ?_) (fun hb => ?_)⟩
      · -- state[1] = cell // many; return int(cell) % many
        refine ⟨_, rfl, _, rfl, _, _, rfl, rfl, ⟨m0, m1⟩, _, rfl, st, _, _, 1, rfl, rfl, e1, rfl, ?_⟩
        refine ⟨_, rfl, .inl ⟨_, rfl, _, rfl, _, _, rfl, rfl, m0, ?_⟩⟩
        have k2 := k1.trans (Keep.put (st := st) (H := H1) (.lst [.int (a + 1), .int (cell / many), .int c, .int d]))
        exact q _ _ k2 ⟨⟨_, _, _, upd_same, by omega, Int.ediv_nonneg w0 (Int.le_of_lt m0), c0, c1⟩, S.scr.keep k2⟩ (Int.emod_nonneg _ (Int.ne_of_gt m0)) (Int.emod_lt_of_pos _ m0)
      · -- state[2] = int(state[2] * 40014 + cell * 69621 + 17) % 2147483563
        refine ⟨_, rfl, st, _, _, _, rfl, rfl, SqL.of e1, atI_nat (j := 2) rfl, _, _, rfl, rfl, c40 _, _, rfl, _, _, rfl, rfl, c69 _, _, _, rfl, rfl, _, _, rfl, rfl, .inl ⟨_, rfl, _, _, rfl, rfl, p1, _, rfl, st, _, _, 2, rfl, rfl, e1, rfl, ?_⟩⟩
        have F := fin ((c * 40014 + cell * 69621 + 17) % 2147483563) (upd H1 st (.lst [.int (a + 1), .int b, .int ((c * 40014 + cell * 69621 + 17) % 2147483563), .int d])) (k1.trans (Keep.put _)) upd_same _ rfl
        have e2 : (upd H1 st (.lst [.int (a + 1), .int b, .int ((c * 40014 + cell * 69621 + 17) % 2147483563), .int d])) st = some (.lst [.int (a + 1), .int b, .int ((c * 40014 + cell * 69621 + 17) % 2147483563), .int d]) := upd_same
        refine ⟨_, rfl, st, _, _, _, rfl, rfl, SqL.of e2, atI_nat (j := 2) rfl, _, _, rfl, rfl, c48 _, _, rfl, _, _, rfl, rfl, c11 _, _, _, rfl, rfl, _, _, rfl, rfl, .inl ⟨_, rfl, _, _, rfl, rfl, p2, _, rfl, st, _, _, 2, rfl, rfl, e2, rfl, ?_⟩⟩
        refine ⟨_, rfl, st, _, _, _, rfl, rfl, SqL.of upd_same, atI_nat (j := 2) rfl, _, rfl, st, _, _, _, rfl, rfl, SqL.of upd_same, atI_nat (j := 2) rfl, _, _, rfl, rfl, F.1, _, _, rfl, rfl, d8 _, .inl ⟨_, rfl, _, rfl, _, _, rfl, rfl, m0, ?_⟩⟩
        exact F.2 _ rfl
    · have F := fin c H1 k1 e1 _ rfl
      refine ⟨_, rfl, st, _, _, _, rfl, rfl, SqL.of e1, atI_nat (j := 2) rfl, _, _, rfl, rfl, c48 _, _, rfl, _, _, rfl, rfl, c11 _, _, _, rfl, rfl, _, _, rfl, rfl, .inl ⟨_, rfl, _, _, rfl, rfl, p2, _, rfl, st, _, _, 2, rfl, rfl, e1, rfl, ?_⟩⟩
      refine ⟨_, rfl, st, _, _, _, rfl, rfl, SqL.of upd_same, atI_nat (j := 2) rfl, _, rfl, st, _, _, _, rfl, rfl, SqL.of upd_same, atI_nat (j := 2) rfl, _, _, rfl, rfl, F.1, _, _, rfl, rfl, d8 _, .inl ⟨_, rfl, _, rfl, _, _, rfl, rfl, m0, ?_⟩⟩
      exact F.2 _ rfl
end

/-! ### _law_same -/
/-- both hold the same data, less than n deep -/
def spSame (K : PySem.W.Frag) (n : Nat) : Sp := fun vs H Q _ => ∃ (v u : V) (d : Dt), vs = [v, u] ∧ DAt K H v d ∧ DAt K H u d ∧ d.deep < n ∧ Q (.bl true) H
section
variable {P : Program} {w : World} {K : PySem.W.Frag} {mg : Str → Option Value} {base : Heap}
theorem ok_g_same_step (T : Txt K mg) {n : Nat} (G : FnOk P w K mg base CX0 n T.f_g_same T.fd_g_same ["actual", "due"] (spSame K n)) : FnOk P w K mg base CX0 (n + 1) T.f_g_same T.fd_g_same ["actual", "due"] (spSame K (n + 1)) := by
  refine T.d_g_same.F.ok sc_g_same (fun vs H Q E h => ?_) (fun cdv A outer s H vs Q E hr h => ?_)
  · obtain ⟨v, u, d, rfl, _⟩ := h
    rfl
  obtain ⟨v, u, d, rfl, hv, hu, hd, q⟩ := h
  have nd := sc_g_same.nd
  refine ⟨_, pss_cons (ps_if (pt_cmp (pc_isN (pv 1))) (pss_one (ps_ret (pe_cmp (pc_isN (pv 0))))) pss_nil)
    (pss_cons (ps_if (pt_val (pe_callB call_isi (by rfl) T.z_isinstance (by decide +kernel) (pa_cons (pv 1) (pa_cons (pe_bltn (v := .ty "tuple") (by rfl) T.z_tuple (by decide +kernel) rfl) pa_nil))))
      (pss_cons (ps_if (PW.pt (pw_or (pt_not (pt_val (pe_callB call_isi (by rfl) T.z_isinstance (by decide +kernel) (pa_cons (pv 0) (pa_cons (pe_bltn (v := .ty "tuple") (by rfl) T.z_tuple (by decide +kernel) rfl) pa_nil)))))
          (pw_or1 (pt_cmpR op_ne (pe_callB call_len_seq (by rfl) T.z_len PySem.boot_len (pa_cons (pv 0) pa_nil)) (pe_callB call_len_seq (by rfl) T.z_len PySem.boot_len (pa_cons (pv 1) pa_nil)) (nomark _)))))
        (pss_one (ps_ret pe_bl)) pss_nil)
      (pss_cons (ps_for PassesOwn.never rfl (pi_range1 (by rfl) T.z_range (pa_cons (pe_callB call_len_seq (by rfl) T.z_len PySem.boot_len (pa_cons (pv 1) pa_nil)) pa_nil)) (pg_name (i := 2) nd rfl (.inl rfl))
        (pss_one (ps_if (pt_not (pt_val (pe_call G hr (by rfl) T.d_g_same.m T.d_g_same.F.kp T.d_g_same.b .nil pass0 (pa_cons (pe_ix ix_tup (pv 0) (pv 2) (fun _ _ => rfl)) (pa_cons (pe_ix ix_tup (pv 1) (pv 2) (fun _ _ => rfl)) pa_nil))))) (pss_one (ps_ret pe_bl)) pss_nil)))
      (pss_one (ps_ret pe_bl)))) pss_nil)
    (pss_cons (ps_if (pt_val (pe_callB call_isi (by rfl) T.z_isinstance (by decide +kernel) (pa_cons (pv 1) (pa_cons (pe_bltn (v := .ty "int") (by rfl) T.z_int (by decide +kernel) rfl) pa_nil))))
      (pss_one (ps_ret (pe_and (pe_callB call_isi (by rfl) T.z_isinstance (by decide +kernel) (pa_cons (pv 0) (pa_cons (pe_bltn (v := .ty "int") (by rfl) T.z_int (by decide +kernel) rfl) pa_nil)))
        (pe_and (pe_not (pe_callB call_isi (by rfl) T.z_isinstance (by decide +kernel) (pa_cons (pv 0) (pa_cons (pe_bltn (v := .ty "bool") (by rfl) T.z_bool (by decide +kernel) rfl) pa_nil))))
        (pe_one (pe_cmpR op_eq (pv 0) (pv 1) (nomark _))))))) pss_nil)
    (pss_one (ps_ret (pe_and (pe_callB call_isi (by rfl) T.z_isinstance (by decide +kernel) (pa_cons (pv 0) (pa_cons (pe_bltn (v := .ty "str") (by rfl) T.z_str (by decide +kernel) rfl) pa_nil)))
        (pe_one (pe_cmpR op_eq (pv 0) (pv 1) (nomark _)))))))), ?_⟩
  cases d with
  | non =>
    cases hu
    cases hv
    exact ⟨_, rfl, _, rfl, iteT ⟨_, rfl, q⟩⟩
  | key k =>
    rw [hu.key_inv, hv.key_inv]
    cases k with
    | inl i =>
      refine ⟨_, rfl, _, rfl, iteF ?_⟩
      refine ⟨_, rfl, _, _, _, _, _, rfl, .ty _, .base (.int _), kit_ty (r := false) (by decide +kernel), _, rfl, iteF ?_⟩
      refine ⟨_, rfl, _, _, _, _, _, rfl, .ty _, .base (.int _), kit_ty (r := true) (by decide +kernel), _, rfl, iteT ?_⟩
      refine ⟨_, rfl, _, _, _, _, _, rfl, .ty _, .base (.int _), kit_ty (r := true) (by decide +kernel), _, rfl, iteT ?_⟩
      refine ⟨_, rfl, _, _, _, _, _, rfl, .ty _, .base (.int _), kit_ty (r := false) (by decide +kernel), _, rfl, _, rfl, iteT ?_⟩
      refine ⟨_, rfl, _, rfl, rfl, ?_⟩
      rw [decide_eq_true rfl]
      exact q
    | inr x =>
      refine ⟨_, rfl, _, rfl, iteF ?_⟩
      refine ⟨_, rfl, _, _, _, _, _, rfl, .ty _, .base (.str _), kit_ty (r := false) (by decide +kernel), _, rfl, iteF ?_⟩
      refine ⟨_, rfl, _, _, _, _, _, rfl, .ty _, .base (.str _), kit_ty (r := false) (by decide +kernel), _, rfl, iteF ?_⟩
      refine ⟨_, rfl, _, _, _, _, _, rfl, .ty _, .base (.str _), kit_ty (r := true) (by decide +kernel), _, rfl, iteT ?_⟩
      refine ⟨_, rfl, _, rfl, rfl, ?_⟩
      rw [decide_eq_true rfl]
      exact q
  | tup ds =>
    obtain ⟨a, vs, rfl, sa, ha, za⟩ := hv.tup_inv
    obtain ⟨b, us, rfl, sb, hb, zb⟩ := hu.tup_inv
    have la := ha.length
    have lb := hb.length
    refine ⟨_, rfl, _, rfl, iteF ?_⟩
    refine ⟨_, rfl, _, _, _, _, _, rfl, .ty _, ty_tup sb, kit_ty (r := true) (by decide +kernel), _, rfl, iteT ?_⟩
    refine ⟨_, rfl, _, _, _, _, _, rfl, .ty _, ty_tup sa, kit_ty (r := true) (by decide +kernel), _, rfl, iteF ?_⟩
    refine ⟨_, rfl, a, _, rfl, .inr sa, _, rfl, b, _, rfl, .inr sb, rfl, _, rfl, iteNS (by rw [la, lb]) ?_⟩
    refine ⟨_, rfl, b, _, rfl, .inr sb, _, rfl, by omega, by omega, for_range (lo := 0) (n := us.length) (fun i σ H' => H' = H ∧ ∃ z, σ = [some (.ref a), some (.ref b), z]) ⟨rfl, none, rfl⟩ ?_ ?_⟩
    · rintro i σ H' hi ⟨rfl, z, rfl⟩
      have h1 : i < vs.length := by omega
      have h2 : i < ds.length := by omega
      obtain ⟨u, e1, r1⟩ := ha.get (List.getElem?_eq_getElem h2)
      obtain ⟨u2, e2, r2⟩ := hb.get (List.getElem?_eq_getElem h2)
      have dm := Dt.deep_mem (List.getElem_mem h2)
      rw [Dt.deep] at hd
      refine ⟨_, rfl, _, rfl, a, _, _, _, rfl, rfl, sa, at_of (by omega) e1, _, rfl, _, rfl, b, _, _, _, rfl, rfl, sb, at_of (by omega) e2, ?_⟩
      refine ⟨u, u2, _, rfl, r1, r2, by omega, _, rfl, iteF ⟨rfl, _, rfl⟩⟩
    · rintro σ H' ⟨rfl, z, rfl⟩
      exact q
theorem ok_g_same (T : Txt K mg) : ∀ n, FnOk P w K mg base CX0 n T.f_g_same T.fd_g_same ["actual", "due"] (spSame K n)
  | 0 => fn_none fun vs H Q E ⟨_, _, _, _, _, _, h, _⟩ => absurd h (Nat.not_lt_zero _)
  | n + 1 => ok_g_same_step T (ok_g_same T n)
end

/-! ### _law_name -/
def upC (c : Nat) : Prop := 65 ≤ c ∧ c ≤ 90
def loC (c : Nat) : Prop := 97 ≤ c ∧ c ≤ 122
def alC (c : Nat) : Prop := upC c ∨ loC c ∨ (48 ≤ c ∧ c ≤ 57)
instance (c : Nat) : Decidable (upC c) := inferInstanceAs (Decidable (_ ∧ _))
instance (c : Nat) : Decidable (loC c) := inferInstanceAs (Decidable (_ ∧ _))
instance (c : Nat) : Decidable (alC c) := inferInstanceAs (Decidable (_ ∨ _))
/-- a name: its first letter is large or small, letters and digits behind it, at most 12 in all -/
def IsNm (b : Bool) (x : Str) : Prop := ∃ c cs, x.cps.toList = c :: cs ∧ (if b = true then upC c else loC c) ∧ (∀ d ∈ cs, alC d) ∧ cs.length ≤ 11
abbrev sSmall : Str := "abcdefghijklmnopqrstuvwxyz"
theorem upper_small : Txt.upper sSmall = ("ABCDEFGHIJKLMNOPQRSTUVWXYZ" : Str) := by
  rw [PyProof.Rows.upper_ascii (by decide +kernel)]
  decide +kernel
theorem at_all {P : Nat → Prop} {l : List Nat} {r : Int} (h : ∀ c ∈ l, P c) (h0 : 0 ≤ r) (h1 : r < (l.length : Int)) : ∃ c, atI l r = some c ∧ P c := by
  have hk : r.toNat < l.length := by omega
  have e : atI l ((r.toNat : Nat) : Int) = some l[r.toNat] := atI_nat (List.getElem?_eq_getElem hk)
  rw [show ((r.toNat : Nat) : Int) = r by omega] at e
  exact ⟨l[r.toNat], e, h _ (List.getElem_mem hk)⟩
theorem cps_append (a b : Str) : (a ++ b).cps.toList = a.cps.toList ++ b.cps.toList := TL.tl_append a b
theorem str_len (a : Str) : a.length = a.cps.toList.length := by simp [Str.length]
def spName (K : PySem.W.Frag) : Sp := fun vs H Q _ => ∃ (st sc : Addr) (ns : List Int) (d : Int) (b : Bool), vs = [.ref st, .ref sc, .bl b] ∧ SOk K H st sc ns d ∧ ns.length ≤ 63 ∧
  ∀ (H' : Hp) (x : Str), Keep st H H' → SOk K H' st sc ns d → IsNm b x → Q (.str x) H'
section
variable {P : Program} {w : World} {K : PySem.W.Frag} {mg : Str → Option Value} {base : Heap}
theorem ok_g_name (T : Txt K mg) : FnOk P w K mg base CX0 2 T.f_g_name T.fd_g_name ["state", "script", "large"] (spName K) := by
  have G : FnOk P w K mg base CX0 1 T.f_g_pick T.fd_g_pick ["state", "script", "many"] (spPick K) := ok_g_pick T
  refine T.d_g_name.F.ok sc_g_name (fun vs H Q E h => ?_) (fun cdv A outer s H vs Q E hr h => ?_)
  · obtain ⟨st, sc, ns, d, b, rfl, _⟩ := h
    rfl
  obtain ⟨st, sc, ns, d, b, rfl, S, h63, q⟩ := h
  have nd := sc_g_name.nd
  refine ⟨_, pss_cons (ps_set (i := 3) nd rfl (.inl rfl) pe_str)
    (pss_cons (ps_set (i := 4) nd rfl (.inl rfl) (pe_op op_add_str (pe_op op_add_str (pv 3) (pe_upper (pv 3))) pe_str))
    (pss_cons (ps_set (i := 5) nd rfl (.inl rfl) (pe_op op_add pe_int (pe_call G hr (by rfl) T.d_g_pick.m T.d_g_pick.F.kp T.d_g_pick.b .nil pass0 (pa_cons (pv 0) (pa_cons (pv 1) (pa_cons pe_int pa_nil))))))
    (C8.pss_cut (ps_if (pt_cmpR op_eq (pv 5) pe_int (nomark _)) (pss_one (ps_set (i := 5) nd rfl (.inl rfl) (pe_op op_add pe_int (pe_call G hr (by rfl) T.d_g_pick.m T.d_g_pick.F.kp T.d_g_pick.b .nil pass0 (pa_cons (pv 0) (pa_cons (pv 1) (pa_cons pe_int pa_nil))))))) pss_nil)
    (pss_cons (ps_set (i := 6) nd rfl (.inl rfl) (pe_ix ix_str (pe_ix ix_list (pe_lst (pa_cons (pv 3) (pa_cons (pe_upper (pv 3)) pa_nil))) (pe_callTy call_int1 (by rfl) T.z_int (by decide +kernel) (pa_cons (pv 2) pa_nil)) (fun _ _ => rfl))
        (pe_call G hr (by rfl) T.d_g_pick.m T.d_g_pick.F.kp T.d_g_pick.b .nil pass0 (pa_cons (pv 0) (pa_cons (pv 1) (pa_cons pe_int pa_nil)))) (fun _ _ => rfl)))
    (pss_cons (ps_for PassesOwn.never rfl (pi_range1 (by rfl) T.z_range (pa_cons (pe_op op_sub (pv 5) pe_int) pa_nil)) (pg_name (i := 7) nd rfl (.inl rfl))
      (pss_one (ps_set (i := 6) nd rfl (.inl rfl) (pe_op op_add_str (pv 6) (pe_ix ix_str (pv 4) (pe_call G hr (by rfl) T.d_g_pick.m T.d_g_pick.F.kp T.d_g_pick.b .nil pass0 (pa_cons (pv 0) (pa_cons (pv 1) (pa_cons pe_int pa_nil)))) (fun _ _ => rfl))))))
    (pss_one (ps_ret (pv 6)))))))), ?_⟩
  have hsm : (sSmall).length ≤ 5592405 := by decide +kernel
  refine ⟨_, rfl, _, rfl, ⟨_, rfl⟩, sSmall, rfl, rfl, hsm, _, _, rfl, rfl, (by rw [upper_small]; decide +kernel), _, _, rfl, rfl, (by rw [upper_small]; decide +kernel), ?_⟩
  rw [upper_small]
  generalize hch : (sSmall ++ "ABCDEFGHIJKLMNOPQRSTUVWXYZ" ++ "0123456789" : Str) = chars
  have hc1 : ∀ c ∈ chars.cps.toList, alC c := by rw [← hch]; decide +kernel
  have hc2 : chars.cps.toList.length = 62 := by rw [← hch]; decide +kernel
  have hc3 : chars.length ≤ sizeLine := by rw [str_len, hc2]; decide
  refine ⟨_, rfl, _, rfl, st, sc, ns, d, 3, rfl, S, h63, by decide, by decide, fun H1 r k1 S1 r0 r1 => ⟨_, _, rfl, rfl, ?_⟩⟩
  refine ⟨fun σ H' => ∃ m : Int, σ = [some (.ref st), some (.ref sc), some (.bl b), some (.str sSmall), some (.str chars), some (.int m), none, none] ∧ 1 ≤ m ∧ m ≤ 12 ∧ Keep st H H' ∧ SOk K H' st sc ns d, ?_, ?_⟩
  · refine ⟨_, rfl, rfl, _, rfl, ite2 (fun e => ?_) (fun e => ?_)⟩
    · refine ⟨_, rfl, _, rfl, st, sc, ns, d, 12, rfl, S1, h63, by decide, by decide, fun H2 r2 k2 S2 r20 r21 => ⟨_, _, rfl, rfl, 1 + r2, rfl, by omega, by omega, k1.trans k2, S2⟩⟩
    · exact ⟨1 + r, rfl, by omega, by omega, k1, S1⟩
  · rintro σ H1 ⟨m, rfl, m1, m12, k1, S1⟩
    refine ⟨_, rfl, _, rfl, ⟨_, rfl⟩, sSmall, rfl, rfl, hsm, (by show 2 ≤ sizeLine; decide), fun l hl => ?_⟩
    rw [upper_small]
    have e1 : atI [V.str sSmall, .str "ABCDEFGHIJKLMNOPQRSTUVWXYZ"] (if b = true then 1 else 0) = some (.str (if b = true then "ABCDEFGHIJKLMNOPQRSTUVWXYZ" else sSmall)) := by
      cases b <;> rfl
    have S2 := S1.new hl (.lst [V.str sSmall, .str "ABCDEFGHIJKLMNOPQRSTUVWXYZ"])
    refine ⟨_, rfl, .inr ⟨_, rfl, l, _, _, _, rfl, rfl, SqL.of upd_same, e1, _, rfl, _, rfl, st, sc, ns, d, 26, rfl, S2, h63, by decide, by decide, fun H3 r k3 S3 r0 r1 => ?_⟩⟩
    have k13 : Keep st H H3 := (k1.trans (Keep.new hl _)).trans k3
    have hab : ∃ c, atI ((if b = true then "ABCDEFGHIJKLMNOPQRSTUVWXYZ" else sSmall : Str)).cps.toList r = some c ∧ (if b = true then upC c else loC c) := by
      have l1 : (("ABCDEFGHIJKLMNOPQRSTUVWXYZ" : Str)).cps.toList.length = 26 := by decide +kernel
      have l2 : (sSmall).cps.toList.length = 26 := by decide +kernel
      have u1 : ∀ c ∈ (("ABCDEFGHIJKLMNOPQRSTUVWXYZ" : Str)).cps.toList, upC c := by decide +kernel
      have u2 : ∀ c ∈ (sSmall).cps.toList, loC c := by decide +kernel
      cases b with
      | true =>
        obtain ⟨c, e, h⟩ := at_all (P := upC) (r := r) u1 r0 (by rw [l1]; exact r1)
        exact ⟨c, e, h⟩
      | false =>
        obtain ⟨c, e, h⟩ := at_all (P := loC) (r := r) u2 r0 (by rw [l2]; exact r1)
        exact ⟨c, e, h⟩
    obtain ⟨c, ec, hc⟩ := hab
    refine ⟨_, _, c, rfl, rfl, (by cases b <;> decide +kernel), ec, ?_⟩
    refine ⟨_, rfl, _, _, rfl, rfl, _, rfl, by omega, by omega, for_range (lo := 0) (n := (m - 1).toNat) (fun i σ H' => ∃ (x : Str) (cs : List Nat) (z : Option V), σ = [some (.ref st), some (.ref sc), some (.bl b), some (.str sSmall), some (.str chars), some (.int m), some (.str x), z] ∧ x.cps.toList = c :: cs ∧ (∀ d ∈ cs, alC d) ∧ cs.length = i ∧ Keep st H H' ∧ SOk K H' st sc ns d)
      ⟨⟨#[c]⟩, [], none, rfl, rfl, (fun _ h => absurd h List.not_mem_nil), rfl, k13, S3⟩ ?_ ?_⟩
    · rintro i σ H4 hi ⟨x, cs, z, rfl, ex, hcs, hl2, k4, S4⟩
      refine ⟨_, rfl, _, rfl, _, rfl, _, rfl, st, sc, ns, d, 62, rfl, S4, h63, by decide, by decide, fun H5 r k5 S5 r0 r1 => ?_⟩
      obtain ⟨c2, ec2, hc2'⟩ := at_all hc1 r0 (by rw [hc2]; exact r1)
      refine ⟨chars, _, c2, rfl, rfl, hc3, ec2, _, _, rfl, rfl, ?_, ?_⟩
      · rw [str_len, ex, List.length_cons, hl2]
        show i + 1 + 1 ≤ sizeLine
        rw [sizeLine_eq]
        omega
      · refine ⟨x ++ ⟨#[c2]⟩, cs ++ [c2], _, rfl, ?_, ?_, ?_, k4.trans k5, S5⟩
        · rw [cps_append, ex]
          rfl
        · intro d hd
          rcases List.mem_append.mp hd with hd | hd
          · exact hcs d hd
          · rw [List.mem_singleton.mp hd]
            exact hc2'
        · rw [List.length_append, List.length_singleton, hl2]
    · rintro σ H4 ⟨x, cs, z, rfl, ex, hcs, hl2, k4, S4⟩
      exact ⟨_, rfl, q _ _ k4 S4 ⟨c, cs, ex, hc, hcs, by omega⟩⟩
end

/-! ### what the law's generators keep -/
def HdOk : Key → Prop
  | .inl i => 0 ≤ i ∧ i ≤ 9999
  | .inr x => ∃ b, IsNm b x
structure GOk (K : PySem.W.Frag) (H : Hp) (st sc pl : Addr) (ns : List Int) (ks : List Key) (d : Int) : Prop where
  s : SOk K H st sc ns d
  p : Scr K H st pl (ks.map kV)
  h : ∀ k ∈ ks, HdOk k
  l0 : 0 < ks.length
  l1 : ks.length ≤ 1000
  n63 : ns.length ≤ 63
theorem GOk.of {K : PySem.W.Frag} {H H' : Hp} {st sc pl : Addr} {ns : List Int} {ks : List Key} {d d' : Int} (g : GOk K H st sc pl ns ks d) (k : Keep st H H') (s : SOk K H' st sc ns d') : GOk K H' st sc pl ns ks d' := ⟨s, g.p.keep k, g.h, g.l0, g.l1, g.n63⟩
theorem GOk.go {K : PySem.W.Frag} {H H' : Hp} {st sc pl : Addr} {ns : List Int} {ks : List Key} {d d' : Int} (g : GOk K H st sc pl ns ks d) (k : Keep st H H') (s : StAt H' st d') : GOk K H' st sc pl ns ks d' := g.of k (g.s.go k s)
theorem GOk.new {K : PySem.W.Frag} {H : Hp} {st sc pl p : Addr} {ns : List Int} {ks : List Key} {d : Int} (g : GOk K H st sc pl ns ks d) (h : H p = none) (o : HO) : GOk K (upd H p o) st sc pl ns ks d := g.of (Keep.new h o) (g.s.new h o)
/-- the same state, an own object changed -/
theorem GOk.upd {K : PySem.W.Frag} {H0 H : Hp} {st sc pl p : Addr} {ns : List Int} {ks : List Key} {d0 d : Int} (g0 : GOk K H0 st sc pl ns ks d0) (g : GOk K H st sc pl ns ks d) (k : Keep st H0 H) (h : H0 p = none) (o : HO) : GOk K (upd H p o) st sc pl ns ks d :=
  g0.go (k.upd h o) (g.s.state.upd (g0.s.ne h) o)

/-! ### _law_head -/
def spHead (K : PySem.W.Frag) : Sp := fun vs H Q _ => ∃ (st sc pl : Addr) (ns : List Int) (ks : List Key) (d : Int), vs = [.ref st, .ref sc, .ref pl] ∧ GOk K H st sc pl ns ks d ∧
  ∀ (H' : Hp) (k : Key), Keep st H H' → GOk K H' st sc pl ns ks d → HdOk k → Q (kV k) H'
section
variable {P : Program} {w : World} {K : PySem.W.Frag} {mg : Str → Option Value} {base : Heap}
theorem three {r : Int} (h0 : 0 ≤ r) (h1 : r < 3) : ∃ m : Int, atI [V.int 4, .int 30, .int 10000] r = some (.int m) ∧ 0 < m ∧ m ≤ 10000 := by
  have h : r = 0 ∨ r = 1 ∨ r = 2 := by omega
  rcases h with rfl | rfl | rfl
  · exact ⟨4, rfl, by decide, by decide⟩
  · exact ⟨30, rfl, by decide, by decide⟩
  · exact ⟨10000, rfl, by decide, by decide⟩
theorem ok_g_head (T : Txt K mg) : FnOk P w K mg base CX0 3 T.f_g_head T.fd_g_head ["state", "script", "pool"] (spHead K) := by
  have G : FnOk P w K mg base CX0 1 T.f_g_pick T.fd_g_pick ["state", "script", "many"] (spPick K) := ok_g_pick T
  have GN : FnOk P w K mg base CX0 2 T.f_g_name T.fd_g_name ["state", "script", "large"] (spName K) := ok_g_name T
  refine T.d_g_head.F.ok sc_g_head (fun vs H Q E h => ?_) (fun cdv A outer s H vs Q E hr h => ?_)
  · obtain ⟨st, sc, pl, ns, ks, d, rfl, _⟩ := h
    rfl
  obtain ⟨st, sc, pl, ns, ks, d, rfl, g, q⟩ := h
  have nd := sc_g_head.nd
  have hr1 : Room 1 _ := hr.mono (by decide)
  refine ⟨_, pss_cons (ps_set (i := 3) nd rfl (.inl rfl) (pe_call G hr1 (by rfl) T.d_g_pick.m T.d_g_pick.F.kp T.d_g_pick.b .nil pass0 (pa_cons (pv 0) (pa_cons (pv 1) (pa_cons pe_int pa_nil)))))
    (pss_cons (ps_if (pt_cmpR op_lt (pv 3) pe_int (nomark _)) (pss_one (ps_ret (pe_call G hr1 (by rfl) T.d_g_pick.m T.d_g_pick.F.kp T.d_g_pick.b .nil pass0 (pa_cons (pv 0) (pa_cons (pv 1) (pa_cons
        (pe_ix ix_list (pe_lst (pa_cons pe_int (pa_cons pe_int (pa_cons pe_int pa_nil)))) (pv 3) (fun _ _ => rfl)) pa_nil)))))) pss_nil)
    (pss_cons (ps_if (pt_cmpR op_eq (pv 3) pe_int (nomark _)) (pss_one (ps_ret (pe_call GN hr (by rfl) T.d_g_name.m T.d_g_name.F.kp T.d_g_name.b .nil pass0 (pa_cons (pv 0) (pa_cons (pv 1) (pa_cons
        (pe_cmpR op_eq (pe_call G hr1 (by rfl) T.d_g_pick.m T.d_g_pick.F.kp T.d_g_pick.b .nil pass0 (pa_cons (pv 0) (pa_cons (pv 1) (pa_cons pe_int pa_nil)))) pe_int (nomark _)) pa_nil)))))) pss_nil)
    (pss_one (ps_ret (pe_ix ix_list (pv 2) (pe_call G hr1 (by rfl) T.d_g_pick.m T.d_g_pick.F.kp T.d_g_pick.b .nil pass0 (pa_cons (pv 0) (pa_cons (pv 1) (pa_cons
        (pe_callB call_len_seq (by rfl) T.z_len PySem.boot_len (pa_cons (pv 2) pa_nil)) pa_nil)))) (fun _ _ => rfl)))))), ?_⟩
  refine ⟨_, rfl, _, rfl, st, sc, ns, d, 8, rfl, g.s, g.n63, by decide, by decide, fun H1 r k1 S1 r0 r1 => ?_⟩
  have g1 := g.of k1 S1
  refine ⟨_, rfl, _, _, rfl, rfl, _, rfl, ite2 (fun e => ?_) (fun e => ?_)⟩
  · have e : r < 3 := of_decide_eq_true e
    obtain ⟨m, em, m0, m1⟩ := three r0 e
    refine ⟨_, rfl, _, rfl, (by show 3 ≤ sizeLine; decide), fun l hl => ⟨_, rfl, l, _, _, _, rfl, rfl, SqL.of upd_same, em, ?_⟩⟩
    refine ⟨st, sc, ns, d, m, rfl, S1.new hl _, g.n63, m0, by omega, fun H2 r2 k2 S2 r20 r21 => ?_⟩
    have k12 := (k1.trans (Keep.new hl _)).trans k2
    exact q H2 (.inl r2) k12 (g.of k12 S2) ⟨r20, by omega⟩
  · refine ⟨_, rfl, rfl, _, rfl, ite2 (fun e => ?_) (fun e => ?_)⟩
    · refine ⟨_, rfl, _, rfl, _, rfl, _, rfl, st, sc, ns, d, 2, rfl, S1, g.n63, by decide, by decide, fun H2 r2 k2 S2 r20 r21 => ⟨rfl, st, sc, ns, d, _, rfl, S2, g.n63, fun H3 x k3 S3 hx => ?_⟩⟩
      have k13 := (k1.trans k2).trans k3
      exact q H3 (.inr x) k13 (g.of k13 S3) ⟨_, hx⟩
    · have hl := g1.p.here
      refine ⟨_, rfl, _, rfl, _, rfl, _, rfl, pl, _, rfl, .inl hl, st, sc, ns, d, _, rfl, S1, g.n63, ?_, ?_, fun H2 r2 k2 S2 r20 r21 => ?_⟩
      · rw [List.length_map]
        have := g.l0
        omega
      · rw [List.length_map]
        have := g.l1
        omega
      · rw [List.length_map] at r21
        have hk : r2.toNat < ks.length := by omega
        have k12 := k1.trans k2
        have e2 : atI (ks.map kV) r2 = some (kV ks[r2.toNat]) := at_of (j := r2.toNat) (by omega) (by rw [List.getElem?_map, List.getElem?_eq_getElem hk]; rfl)
        refine ⟨pl, _, _, _, rfl, rfl, (g.p.keep k12).here, e2, ?_⟩
        exact q H2 _ k12 (g.of k12 S2) (g.h _ (List.getElem_mem hk))
end

/-! ### _law_pool -/
def spPool (K : PySem.W.Frag) : Sp := fun vs H Q _ => ∃ (st sc : Addr) (ns : List Int) (d : Int), vs = [.ref st, .ref sc] ∧ SOk K H st sc ns d ∧ ns.length ≤ 63 ∧
  ∀ (H' : Hp) (pl : Addr) (ks : List Key), Keep st H H' → GOk K H' st sc pl ns ks d → H pl = none → Q (.ref pl) H'
section
variable {P : Program} {w : World} {K : PySem.W.Frag} {mg : Str → Option Value} {base : Heap}
theorem ok_g_pool (T : Txt K mg) : FnOk P w K mg base CX0 3 T.f_g_pool T.fd_g_pool ["state", "script"] (spPool K) := by
  have GN : FnOk P w K mg base CX0 2 T.f_g_name T.fd_g_name ["state", "script", "large"] (spName K) := ok_g_name T
  refine T.d_g_pool.F.ok sc_g_pool (fun vs H Q E h => ?_) (fun cdv A outer s H vs Q E hr h => ?_)
  · obtain ⟨st, sc, ns, d, rfl, _⟩ := h
    rfl
  obtain ⟨st, sc, ns, d, rfl, S, h63, q⟩ := h
  have nd := sc_g_pool.nd
  refine ⟨_, pss_one (ps_ret (pe_op op_cat
    (pe_lc (own := [("k", 2)]) (g := gName 2) (tt := tYes) rfl nd (pi_range1 (by rfl) T.z_range (pa_cons pe_int pa_nil)) (blkOk_by (own := [("k", 2)]) (N := ["state", "script", "k"]) (sc := defScope s_g_pool) (by decide +kernel))
      (fun _ _ _ _ _ => pg_name (i := 2) nd rfl (Or.inl rfl)) (fun _ _ _ _ _ => pts_nil)
      (fun _ _ _ _ _ => pe_call GN hr (by rfl) T.d_g_name.m T.d_g_name.F.kp T.d_g_name.b .nil pass0 (pa_cons (pv 0) (pa_cons (pv 1) (pa_cons (pe_cmpR op_lt (pv 2) pe_int (nomark _)) pa_nil)))))
    (pe_lst (pa_cons pe_int (pa_cons pe_int (pa_cons pe_int pa_nil)))))), ?_⟩
  refine ⟨5, rfl, by decide, by decide, fun D hD => lc_range (lo := 0) (n := 5) (fun i H' => ∃ xs : List Key, H' D = some (.lst (xs.map kV)) ∧ xs.length = i ∧ (∀ k ∈ xs, HdOk k) ∧ Keep st H H' ∧ StAt H' st d)
    ⟨[], upd_same, rfl, (fun _ h => absurd h List.not_mem_nil), Keep.new hD _, S.state.upd (S.ne hD) _⟩ ?_ ?_⟩
  · rintro i H1 hi ⟨xs, e, hl, hx, k1, s1⟩
    refine ⟨rfl, ?_⟩
    refine yesT ?_
    refine ⟨_, rfl, _, rfl, _, rfl, _, _, rfl, rfl, st, sc, ns, d, _, rfl, S.go k1 s1, h63, fun H2 x k2 S2 nx => ?_⟩
    have e2 : H2 D = some (.lst (xs.map kV)) := k2 _ _ (S.ne hD) e
    refine ⟨xs.map kV, e2, ?_, xs ++ [.inr x], ?_, ?_, ?_, (k1.trans k2).upd hD _, S2.state.upd (S.ne hD) _⟩
    · rw [List.length_map, hl]
      exact small1000 (by omega)
    · rw [upd_same, List.map_append]
      rfl
    · rw [List.length_append, hl]
      rfl
    · intro k hk
      rcases List.mem_append.mp hk with hk | hk
      · exact hx k hk
      · rw [List.mem_singleton.mp hk]
        exact ⟨_, nx⟩
  · rintro H1 ⟨xs, e, hl, hx, k1, s1⟩
    refine ⟨(by show 3 ≤ sizeLine; decide), fun l hn => ⟨D, l, _, _, rfl, rfl, (by rw [upd_ne (ne_of_none e hn)]; exact e), upd_same, ?_, fun p hp => ?_⟩⟩
    · rw [List.length_map, hl]
      show 5 + 3 ≤ sizeLine
      decide
    · have k2 : Keep st H (upd (upd H1 l (.lst [V.int 0, .int 1, .int 9999])) p (.lst (xs.map kV ++ [V.int 0, .int 1, .int 9999]))) := (k1.trans (Keep.new hn _)).trans (Keep.new hp _)
      have s2 : StAt (upd (upd H1 l (.lst [V.int 0, .int 1, .int 9999])) p (.lst (xs.map kV ++ [V.int 0, .int 1, .int 9999]))) st d := (s1.upd (s1.ne hn) _).upd (StAt.ne (s1.upd (s1.ne hn) _) hp) _
      have hp0 : H p = none := ((k1.trans (Keep.new hn _)).free (StAt.ne (s1.upd (s1.ne hn) _) hp) hp)
      refine q _ p (xs ++ [.inl 0, .inl 1, .inl 9999]) k2 ⟨S.go k2 s2, Scr.of ?_ (S.ne hp0), ?_, ?_, ?_, h63⟩ hp0
      · rw [upd_same, List.map_append]
        rfl
      · intro k hk
        rcases List.mem_append.mp hk with hk | hk
        · exact hx k hk
        · rcases List.mem_cons.mp hk with rfl | hk
          · exact ⟨by decide, by decide⟩
          · rcases List.mem_cons.mp hk with rfl | hk
            · exact ⟨by decide, by decide⟩
            · rw [List.mem_singleton.mp hk]
              exact ⟨by decide, by decide⟩
      · rw [List.length_append, hl]
        decide
      · rw [List.length_append, hl]
        decide
end

/-! ### _law_any -/
def spAny (K : PySem.W.Frag) (n : Nat) : Sp := fun vs H Q _ => ∃ (st sc pl : Addr) (ns : List Int) (ks : List Key) (d : Int) (dep : Int), vs = [.ref st, .ref sc, .ref pl, .int dep] ∧ GOk K H st sc pl ns ks d ∧ 0 ≤ dep ∧ dep ≤ 90 ∧ 91 ≤ dep + (n : Int) ∧
  ∀ (H' : Hp) (v : V) (t : Tm) (d' : Int), Keep st H H' → GOk K H' st sc pl ns ks d' → TAt K H' v t → t.All HdOk → d' = d - (t.size : Int) → (t.size = 1 ∨ 0 ≤ d') → Q v H'
section
variable {P : Program} {w : World} {K : PySem.W.Frag} {mg : Str → Option Value} {base : Heap}
theorem ok_g_any_step (T : Txt K mg) {n : Nat} (G : FnOk P w K mg base CX0 (n + 4) T.f_g_any T.fd_g_any ["state", "script", "pool", "depth"] (spAny K n)) : FnOk P w K mg base CX0 (n + 4 + 1) T.f_g_any T.fd_g_any ["state", "script", "pool", "depth"] (spAny K (n + 1)) := by
  have GP : FnOk P w K mg base CX0 1 T.f_g_pick T.fd_g_pick ["state", "script", "many"] (spPick K) := ok_g_pick T
  have GH : FnOk P w K mg base CX0 3 T.f_g_head T.fd_g_head ["state", "script", "pool"] (spHead K) := ok_g_head T
  refine T.d_g_any.F.ok sc_g_any (fun vs H Q E h => ?_) (fun cdv A outer s H vs Q E hr h => ?_)
  · obtain ⟨st, sc, pl, ns, ks, d, dep, rfl, _⟩ := h
    rfl
  obtain ⟨st, sc, pl, ns, ks, d, dep, rfl, g, dep0, dep1, hn, q⟩ := h
  have nd := sc_g_any.nd
  have hr1 : Room 1 _ := hr.mono (by omega)
  have hr3 : Room 3 _ := hr.mono (by omega)
  refine ⟨_, pss_cons (ps_asg (pe_op op_sub (pe_ix ix_list (pv 0) pe_int (fun _ _ => rfl)) pe_int) (pg_sub (pv 0) pe_int set_list))
    (pss_cons (ps_set (i := 4) nd rfl (.inl rfl) (pe_call GH hr3 (by rfl) T.d_g_head.m T.d_g_head.F.kp T.d_g_head.b .nil pass0 (pa_cons (pv 0) (pa_cons (pv 1) (pa_cons (pv 2) pa_nil)))))
    (pss_cons (ps_set (i := 5) nd rfl (.inl rfl) (pe_lst pa_nil))
    (pss_cons (ps_set (i := 6) nd rfl (.inl rfl) (pe_call GP hr1 (by rfl) T.d_g_pick.m T.d_g_pick.F.kp T.d_g_pick.b .nil pass0 (pa_cons (pv 0) (pa_cons (pv 1) (pa_cons
        (pe_ix ix_list (pe_lst (pa_cons pe_int (pa_cons pe_int pa_nil))) (pe_callTy call_int1 (by rfl) T.z_int (by decide +kernel) (pa_cons (pe_cmpR op_gt (pv 3) pe_int (nomark _)) pa_nil)) (fun _ _ => rfl)) pa_nil)))))
    (pss_cons (ps_for PassesOwn.never rfl (pi_range1 (by rfl) T.z_range (pa_cons (pv 6) pa_nil)) (pg_name (i := 7) nd rfl (.inl rfl))
      (pss_one (ps_if (PW.pt (pw_and (pt_cmpR op_gt (pe_ix ix_list (pv 0) pe_int (fun _ _ => rfl)) pe_int (nomark _)) (pw_and1 (pt_cmpR op_lt (pv 3) pe_int (nomark _)))))
        (pss_one (ps_expr (pe_bm PySem.F.plainAttrs_list PySem.F.slot_list_append PySem.F.type_list_append mt_append (pv 5)
          (pa_cons (pe_call G hr (by rfl) T.d_g_any.m T.d_g_any.F.kp T.d_g_any.b .nil pass0 (pa_cons (pv 0) (pa_cons (pv 1) (pa_cons (pv 2) (pa_cons (pe_op op_add (pv 3) pe_int) pa_nil))))) pa_nil)))) pss_nil)))
    (pss_one (ps_ret (pe_tup (pa_cons (pv 4) (pa_cons (pe_callTy call_tuple_of (by rfl) T.z_tuple (by decide +kernel) (pa_cons (pv 5) pa_nil)) pa_nil))))))))), ?_⟩
  obtain ⟨a, b, c, e, a0, b0, c0, c1⟩ := g.s.state
  -- state[3] = state[3] - 1
  refine ⟨_, rfl, st, _, _, _, rfl, rfl, SqL.of e, atI_nat (j := 3) rfl, _, _, rfl, rfl, _, rfl, st, _, _, 3, rfl, rfl, e, rfl, ?_⟩
  have k1 : Keep st H (upd H st (.lst [.int a, .int b, .int c, .int (d - 1)])) := Keep.put _
  have g1 : GOk K (upd H st (.lst [.int a, .int b, .int c, .int (d - 1)])) st sc pl ns ks (d - 1) := g.go k1 ⟨a, b, c, upd_same, a0, b0, c0, c1⟩
  -- head = ..
  refine ⟨_, rfl, _, rfl, _, rfl, st, sc, pl, ns, ks, d - 1, rfl, g1, fun H2 k k2 g2 hk => ?_⟩
  have k02 := k1.trans k2
  -- arguments = []
  refine ⟨Nat.zero_le _, fun l hl => ?_⟩
  have k03 := k02.trans (Keep.new hl (.lst []))
  have g3 := g2.new hl (.lst [])
  have l0 : H l = none := k02.free (g2.s.ne hl) hl
  have lst : l ≠ st := g2.s.ne hl
  -- many = ..
  refine ⟨_, rfl, _, rfl, (by show 2 ≤ sizeLine; decide), fun l4 hl4 => ⟨_, rfl, _, _, rfl, rfl, .inr ⟨_, rfl, l4, _, _, .int (if decide (5 < dep) = true then 2 else 4), rfl, rfl, SqL.of upd_same, (by cases (decide (5 < dep)) <;> rfl), ?_⟩⟩⟩
  refine ⟨st, sc, ns, d - 1, _, rfl, (g3.new hl4 _).s, g.n63, (by split <;> decide), (by split <;> decide), fun H5 m k5 S5 m0 m1 => ?_⟩
  have m1 : m < 4 := Int.lt_of_lt_of_le m1 (by split <;> decide)
  have k05 := (k03.trans (Keep.new hl4 _)).trans k5
  have e5 : H5 l = some (.lst []) := k5 _ _ lst (by rw [upd_ne (ne_of_none upd_same hl4)]; exact upd_same)
  -- the loop
  refine ⟨_, rfl, m, rfl, by omega, by omega, for_range (lo := 0) (n := m.toNat) (fun i σ H' => ∃ (ts : List Tm) (us : List V) (d2 : Int) (z : Option V), σ = [some (.ref st), some (.ref sc), some (.ref pl), some (.int dep), some (kV k), some (.ref l), some (.int m), z] ∧
      H' l = some (.lst us) ∧ DsAt K H' us (ts.map Tm.dat) ∧ StAt H' st d2 ∧ Keep st H H' ∧ d2 = d - 1 - (Tm.sizeL ts : Int) ∧ (ts = [] ∨ 0 ≤ d2) ∧ ts.length ≤ i ∧ ∀ t ∈ ts, t.All HdOk)
    ⟨[], [], d - 1, none, rfl, e5, .nil, S5.state, k05, by rw [Tm.sizeL]; omega, .inl rfl, Nat.le_refl _, fun _ h => absurd h List.not_mem_nil⟩ ?_ ?_⟩
  · rintro i σ H6 hi ⟨ts, us, d2, z, rfl, e6, ds6, s6, k6, ed, hz, hlen, hall⟩
    have g6 := g.go k6 s6
    obtain ⟨a', b', c', es, _⟩ := id s6
    refine ⟨_, rfl, st, _, _, _, rfl, rfl, SqL.of es, atI_nat (j := 3) rfl, _, _, rfl, rfl, _, rfl, ite2 (fun hp => ⟨_, rfl, _, _, rfl, rfl, _, rfl, ite2 (fun hq => ?_) (fun _ => ?_)⟩) (fun _ => ?_)⟩
    · have hp : 0 < d2 := of_decide_eq_true hp
      have hq : dep < 90 := of_decide_eq_true hq
      refine ⟨_, rfl, .inl ⟨rfl, _, SqL.of e6⟩, _, rfl, _, rfl, _, rfl, _, rfl, _, _, rfl, rfl, st, sc, pl, ns, ks, d2, dep + 1, rfl, g6, by omega, by omega, by omega, fun H7 v t d3 k7 g7 t7 a7 e7 z7 => ?_⟩
      have e7l : H7 l = some (.lst us) := k7 _ _ lst e6
      have ts7 : TStay K H7 (upd H7 l (.lst (us ++ [v]))) := TStay.lst e7l _
      have hsz := Tm.size_pos t
      have lus : us.length = ts.length := by rw [ds6.length, List.length_map]
      refine ⟨l, us, v, rfl, rfl, e7l, ?_, ts ++ [t], us ++ [v], d3, _, rfl, upd_same, ?_, g7.s.state.upd lst _, (k6.trans k7).upd l0 _, ?_, .inr ?_, ?_, ?_⟩
      · rw [lus]
        exact small1000 (by omega)
      · rw [List.map_append]
        exact (DsAt.append (ds6.mono (s6.ts k7)) (.cons t7 .nil)).mono ts7
      · rw [Tm.sizeL_append, Tm.sizeL, Tm.sizeL]
        omega
      · omega
      · rw [List.length_append]
        exact Nat.succ_le_succ hlen
      · intro u hu
        rcases List.mem_append.mp hu with hu | hu
        · exact hall u hu
        · rw [List.mem_singleton.mp hu]
          exact a7
    · exact ⟨ts, us, d2, _, rfl, e6, ds6, s6, k6, ed, hz, Nat.le_succ_of_le hlen, hall⟩
    · exact ⟨ts, us, d2, _, rfl, e6, ds6, s6, k6, ed, hz, Nat.le_succ_of_le hlen, hall⟩
  · rintro σ H6 ⟨ts, us, d2, z, rfl, e6, ds6, s6, k6, ed, hz, hlen, hall⟩
    have lus : us.length = ts.length := by rw [ds6.length, List.length_map]
    refine ⟨_, rfl, _, rfl, l, us, rfl, .inl ⟨SqL.of e6, fun b hb => ⟨(by show 2 ≤ sizeLine; decide), fun p hp => ?_⟩⟩⟩
    have g6 := (g.go k6 s6).new hb (.tup us)
    have sz : (Tm.mk k ts).size = Tm.sizeL ts + 1 := by rw [Tm.size]
    refine q _ _ (.mk k ts) d2 ((k6.trans (Keep.new hb _)).trans (Keep.new hp _)) (g6.new hp _) (TAt.new (SqT.of upd_same) (ds6.mono (TStay.new hb _)) (by omega) hp) (Tm.All.mk hk hall) ?_ ?_
    · rw [sz]
      omega
    · rw [sz]
      rcases hz with rfl | hz
      · exact .inl (by rw [Tm.sizeL])
      · exact .inr hz
theorem ok_g_any (T : Txt K mg) : ∀ n, FnOk P w K mg base CX0 (n + 4) T.f_g_any T.fd_g_any ["state", "script", "pool", "depth"] (spAny K n)
  | 0 => fn_none fun vs H Q E ⟨_, _, _, _, _, _, dep, _, _, h0, h1, h2, _⟩ => by omega
  | n + 1 => ok_g_any_step T (ok_g_any T n)
end

/-! ### _law_deep, _law_chain, _law_term -/
def spDeep (K : PySem.W.Frag) : Sp := fun vs H Q _ => ∃ (st sc pl : Addr) (ns : List Int) (ks : List Key) (d many : Int), vs = [.ref st, .ref sc, .ref pl, .int many] ∧ GOk K H st sc pl ns ks d ∧ 0 ≤ many ∧ many ≤ 10000 ∧
  ∀ (H' : Hp) (v : V) (t : Tm), Keep st H H' → GOk K H' st sc pl ns ks d → TAt K H' v t → t.All HdOk → (t.size : Int) ≤ 1 + 2 * many → Q v H'
theorem cut2 (xs : List V) : cutV xs none (some 2) = xs.take 2 := by
  unfold cutV
  rw [HT.sIx_none, show HT.sIx xs.length xs.length (some 2) = min 2 xs.length from HT.sIx_nat xs.length xs.length 2]
  rw [List.drop_zero, Nat.sub_zero]
  by_cases h : 2 ≤ xs.length
  · rw [Nat.min_eq_left h]
  · rw [Nat.min_eq_right (by omega), List.take_length, List.take_of_length_le (by omega)]
section
variable {P : Program} {w : World} {K : PySem.W.Frag} {mg : Str → Option Value} {base : Heap}
theorem All.leaf {P : Key → Prop} {k : Key} (h : P k) : (Tm.mk k []).All P := Tm.All.mk h fun _ h => absurd h List.not_mem_nil
theorem leaf_size (k : Key) : (Tm.mk k []).size = 1 := by rw [Tm.size, Tm.sizeL]
theorem ok_g_deep (T : Txt K mg) : FnOk P w K mg base CX0 4 T.f_g_deep T.fd_g_deep ["state", "script", "pool", "many"] (spDeep K) := by
  have GP : FnOk P w K mg base CX0 1 T.f_g_pick T.fd_g_pick ["state", "script", "many"] (spPick K) := ok_g_pick T
  have GH : FnOk P w K mg base CX0 3 T.f_g_head T.fd_g_head ["state", "script", "pool"] (spHead K) := ok_g_head T
  refine T.d_g_deep.F.ok sc_g_deep (fun vs H Q E h => ?_) (fun cdv A outer s H vs Q E hr h => ?_)
  · obtain ⟨st, sc, pl, ns, ks, d, many, rfl, _⟩ := h
    rfl
  obtain ⟨st, sc, pl, ns, ks, d, many, rfl, g, m0, m1, q⟩ := h
  have nd := sc_g_deep.nd
  have hr1 : Room 1 _ := hr.mono (by decide)
  refine ⟨_, pss_cons (ps_set (i := 4) nd rfl (.inl rfl) (pe_tup (pa_cons (pe_call GH hr (by rfl) T.d_g_head.m T.d_g_head.F.kp T.d_g_head.b .nil pass0 (pa_cons (pv 0) (pa_cons (pv 1) (pa_cons (pv 2) pa_nil)))) (pa_cons (pe_tup pa_nil) pa_nil))))
    (pss_cons (ps_for PassesOwn.never rfl (pi_range1 (by rfl) T.z_range (pa_cons (pv 3) pa_nil)) (pg_name (i := 5) nd rfl (.inl rfl))
      (pss_cons (ps_set (i := 6) nd rfl (.inl rfl) (pe_lst (pa_cons (pv 4) pa_nil)))
      (C8.pss_cut (ps_if (pt_cmpR op_eq (pe_call GP hr1 (by rfl) T.d_g_pick.m T.d_g_pick.F.kp T.d_g_pick.b .nil pass0 (pa_cons (pv 0) (pa_cons (pv 1) (pa_cons pe_int pa_nil)))) pe_int (nomark _))
        (pss_one (ps_expr (pe_bm PySem.F.plainAttrs_list PySem.F.slot_list_append PySem.F.type_list_append mt_append (pv 6) (pa_cons
          (pe_tup (pa_cons (pe_call GH hr (by rfl) T.d_g_head.m T.d_g_head.F.kp T.d_g_head.b .nil pass0 (pa_cons (pv 0) (pa_cons (pv 1) (pa_cons (pv 2) pa_nil)))) (pa_cons (pe_tup pa_nil) pa_nil))) pa_nil)))) pss_nil)
      (C8.pss_cut (ps_if (pt_cmpR op_eq (pe_call GP hr1 (by rfl) T.d_g_pick.m T.d_g_pick.F.kp T.d_g_pick.b .nil pass0 (pa_cons (pv 0) (pa_cons (pv 1) (pa_cons pe_int pa_nil)))) pe_int (nomark _))
        (pss_one (ps_set (i := 6) nd rfl (.inl rfl) (pe_op op_cat (pe_lst (pa_cons
          (pe_tup (pa_cons (pe_call GH hr (by rfl) T.d_g_head.m T.d_g_head.F.kp T.d_g_head.b .nil pass0 (pa_cons (pv 0) (pa_cons (pv 1) (pa_cons (pv 2) pa_nil)))) (pa_cons (pe_tup pa_nil) pa_nil))) pa_nil)) (pv 6)))) pss_nil)
      (pss_one (ps_set (i := 4) nd rfl (.inl rfl) (pe_tup (pa_cons (pe_call GH hr (by rfl) T.d_g_head.m T.d_g_head.F.kp T.d_g_head.b .nil pass0 (pa_cons (pv 0) (pa_cons (pv 1) (pa_cons (pv 2) pa_nil))))
        (pa_cons (pe_callTy call_tuple_of (by rfl) T.z_tuple (by decide +kernel) (pa_cons (pe_slice sl_list (pv 6) po_none (po_some pe_int)) pa_nil)) pa_nil)))))))))
    (pss_one (ps_ret (pv 4)))), ?_⟩
  refine ⟨_, rfl, _, rfl, _, rfl, st, sc, pl, ns, ks, d, rfl, g, fun H1 k k1 g1 hk => ⟨Nat.zero_le _, fun b hb => ⟨(by show 2 ≤ sizeLine; decide), fun a ha => ?_⟩⟩⟩
  have t1 := TAt.leaf (K := K) (k := k) hb ha
  have g2 := (g1.new hb (.tup [])).new ha (.tup [kV k, .ref b])
  have k2 := (k1.trans (Keep.new hb (.tup []))).trans (Keep.new ha (.tup [kV k, .ref b]))
  refine ⟨_, rfl, many, rfl, by omega, by omega, for_range (lo := 0) (n := many.toNat) (fun i σ H' => ∃ (t : Tm) (v : V) (z y : Option V), σ = [some (.ref st), some (.ref sc), some (.ref pl), some (.int many), some v, z, y] ∧ TAt K H' v t ∧ t.All HdOk ∧ t.size ≤ 1 + 2 * i ∧ Keep st H H' ∧ GOk K H' st sc pl ns ks d)
    ⟨.mk k [], _, none, none, rfl, t1, All.leaf hk, Nat.le_of_eq (leaf_size k), k2, g2⟩ ?_ ?_⟩
  · rintro i σ H2 hi ⟨t, v, z, y, rfl, tt, ta, tz, k3, g3⟩
    refine ⟨_, rfl, (by show 1 ≤ sizeLine; decide), fun l hl => ?_⟩
    have l0 : H l = none := k3.free (g3.s.ne hl) hl
    have lst : l ≠ st := g3.s.ne hl
    have k4 := k3.trans (Keep.new hl (.lst [v]))
    have g4 := g3.new hl (.lst [v])
    have tt4 : TAt K (upd H2 l (.lst [v])) v t := tt.mono (TStay.new hl _)
    -- if .. == 0: arguments.append((head, ()))
    refine ⟨fun σ H' => ∃ us, σ = [some (.ref st), some (.ref sc), some (.ref pl), some (.int many), some v, some (.int (0 + (i : Nat))), some (.ref l)] ∧ Keep st H H' ∧ GOk K H' st sc pl ns ks d ∧ H' l = some (.lst us) ∧ TAt K H' v t ∧
      (us = [v] ∨ ∃ v2 k2, us = [v, v2] ∧ TAt K H' v2 (.mk k2 []) ∧ HdOk k2), ?_, ?_⟩
    · refine ⟨_, rfl, _, rfl, st, sc, ns, d, 4, rfl, g4.s, g.n63, by decide, by decide, fun H5 r k5 S5 _ _ => ?_⟩
      have g5 := g4.of k5 S5
      have e5 : H5 l = some (.lst [v]) := k5 _ _ lst upd_same
      have tt5 := tt4.mono (g4.s.ts k5)
      refine ⟨rfl, _, rfl, ite2 (fun _ => ?_) (fun _ => ⟨[v], rfl, k4.trans k5, g5, e5, tt5, .inl rfl⟩)⟩
      refine ⟨_, rfl, .inl ⟨rfl, _, SqL.of e5⟩, _, rfl, _, rfl, _, rfl, st, sc, pl, ns, ks, d, rfl, g5, fun H6 k' k6 g6 hk' => ⟨Nat.zero_le _, fun b' hb' => ⟨(by show 2 ≤ sizeLine; decide), fun a' ha' => ?_⟩⟩⟩
      have e6 : H6 l = some (.lst [v]) := k6 _ _ lst e5
      have k7 := (k6.trans (Keep.new hb' (.tup []))).trans (Keep.new ha' (.tup [kV k', .ref b']))
      have e7 : (upd (upd H6 b' (.tup [])) a' (.tup [kV k', .ref b'])) l = some (.lst [v]) := k7 _ _ lst e5
      have t7 := TAt.leaf (K := K) (k := k') hb' ha'
      have g7 := (g6.new hb' (.tup [])).new ha' (.tup [kV k', .ref b'])
      have k07 := (k4.trans k5).trans k7
      have sl := TStay.lst (K := K) e7 (.lst ([v] ++ [.ref a']))
      refine ⟨l, [v], _, rfl, rfl, e7, (by show 1 < sizeLine; decide), [v] ++ [.ref a'], rfl, k07.upd l0 _, g.upd g7 k07 l0 _, upd_same, (tt5.mono (g5.s.ts k7)).mono sl, .inr ⟨.ref a', k', rfl, t7.mono sl, hk'⟩⟩
    · rintro σ H5 ⟨us, rfl, k5, g5, e5, tt5, hus⟩
      -- if .. == 0: arguments = [(head, ())] + arguments
      refine ⟨fun σ H' => ∃ (us : List V) (l : Addr) (ts : List Tm), σ = [some (.ref st), some (.ref sc), some (.ref pl), some (.int many), some v, some (.int (0 + (i : Nat))), some (.ref l)] ∧ Keep st H H' ∧ GOk K H' st sc pl ns ks d ∧ l ≠ st ∧ H' l = some (.lst us) ∧ DsAt K H' us (ts.map Tm.dat) ∧
        (∀ u ∈ ts, u.All HdOk) ∧ us.length ≤ 3 ∧ Tm.sizeL (ts.take 2) ≤ t.size + 1, ?_, ?_⟩
      · refine ⟨_, rfl, _, rfl, st, sc, ns, d, 8, rfl, g5.s, g.n63, by decide, by decide, fun H6 r k6 S6 _ _ => ?_⟩
        have g6 := g5.of k6 S6
        have e6 : H6 l = some (.lst us) := k6 _ _ lst e5
        have tt6 := tt5.mono (g5.s.ts k6)
        have hus6 : ∃ ts : List Tm, DsAt K H6 us ((t :: ts).map Tm.dat) ∧ (∀ u ∈ t :: ts, u.All HdOk) ∧ ts.length ≤ 1 ∧ Tm.sizeL ts ≤ 1 := by
          rcases hus with rfl | ⟨v2, k2, rfl, h2, hk2⟩
          · refine ⟨[], .cons tt6 .nil, fun u hu => ?_, Nat.zero_le _, by rw [Tm.sizeL]; exact Nat.zero_le _⟩
            rw [List.mem_singleton.mp hu]
            exact ta
          · refine ⟨[.mk k2 []], .cons tt6 (.cons (h2.mono (g5.s.ts k6)) .nil), fun u hu => ?_, Nat.le_refl _, by rw [Tm.sizeL, leaf_size, Tm.sizeL]; exact Nat.le_refl _⟩
            rcases List.mem_cons.mp hu with rfl | hu
            · exact ta
            · rw [List.mem_singleton.mp hu]
              exact All.leaf hk2
        obtain ⟨ts, ds6, all6, lts, sts⟩ := hus6
        have lus : us.length = ts.length + 1 := by rw [ds6.length, List.length_map, List.length_cons]
        refine ⟨rfl, _, rfl, ite2 (fun _ => ?_) (fun _ => ⟨us, l, t :: ts, rfl, k5.trans k6, g6, lst, e6, ds6, all6, by omega, ?_⟩)⟩
        · refine ⟨_, rfl, _, rfl, _, rfl, st, sc, pl, ns, ks, d, rfl, g6, fun H7 k' k7 g7 hk' => ⟨Nat.zero_le _, fun b' hb' => ⟨(by show 2 ≤ sizeLine; decide), fun a' ha' => ⟨(by show 1 ≤ sizeLine; decide), fun l2 hl2 => ?_⟩⟩⟩⟩
          have t7 := TAt.leaf (K := K) (k := k') hb' ha'
          have g8 := ((g7.new hb' (.tup [])).new ha' (.tup [kV k', .ref b'])).new hl2 (.lst [.ref a'])
          have k8 := ((k7.trans (Keep.new hb' (.tup []))).trans (Keep.new ha' (.tup [kV k', .ref b']))).trans (Keep.new hl2 (.lst [.ref a']))
          have e8 := k8 _ _ lst e6
          have t8 := t7.mono (TStay.new hl2 (.lst [.ref a']))
          have ds8 := ds6.mono (g6.s.ts k8)
          refine ⟨_, rfl, l2, l, _, _, rfl, rfl, upd_same, e8, ?_, fun l3 hl3 => ?_⟩
          · rw [lus]
            show 1 + (ts.length + 1) ≤ sizeLine
            rw [sizeLine_eq]
            omega
          · refine ⟨_, l3, .mk k' [] :: t :: ts, rfl, ((k5.trans k6).trans k8).trans (Keep.new hl3 _), g8.new hl3 _, g8.s.ne hl3, upd_same, (DsAt.cons t8 ds8).mono (TStay.new hl3 _), fun u hu => ?_, ?_, ?_⟩
            · rcases List.mem_cons.mp hu with rfl | hu
              · exact All.leaf hk'
              · exact all6 u hu
            · rw [List.length_append, lus]
              show 1 + (ts.length + 1) ≤ 3
              omega
            · show Tm.sizeL [.mk k' [], t] ≤ _
              rw [Tm.sizeL, Tm.sizeL, Tm.sizeL, leaf_size]
              omega
        · have e : Tm.sizeL ((t :: ts).take 2) = t.size + Tm.sizeL (ts.take 1) := by
            rw [List.take_succ_cons, Tm.sizeL]
          rw [e, List.take_of_length_le lts]
          omega
      · rintro σ H6 ⟨us, l, ts, rfl, k6, g6, lst, e6, ds6, all6, lus, sts⟩
        refine ⟨_, rfl, _, rfl, _, rfl, st, sc, pl, ns, ks, d, rfl, g6, fun H7 k' k7 g7 hk' => ?_⟩
        have e7 : H7 l = some (.lst us) := k7 _ _ lst e6
        refine ⟨_, rfl, 2, rfl, l, us, rfl, SqL.of e7, fun l2 hl2 => ?_⟩
        rw [cut2]
        refine ⟨l2, _, rfl, .inl ⟨SqL.of upd_same, fun b' hb' => ⟨(by show 2 ≤ sizeLine; decide), fun a' ha' => ?_⟩⟩⟩
        have ds7 : DsAt K H7 (us.take 2) ((ts.take 2).map Tm.dat) := by
          rw [List.map_take]
          exact DsAt.take (ds6.mono (g6.s.ts k7)) 2
        have ds8 := (ds7.mono (TStay.new hl2 (.lst (us.take 2)))).mono (TStay.new hb' (.tup (us.take 2)))
        have t8 := TAt.new (K := K) (k := k') (SqT.of (upd_same (a := b') (o := .tup (us.take 2)))) ds8 (by rw [List.length_take]; omega) ha'
        refine ⟨_, _, _, _, rfl, t8, Tm.All.mk hk' (fun u hu => all6 u (List.mem_of_mem_take hu)), ?_, (((k6.trans k7).trans (Keep.new hl2 _)).trans (Keep.new hb' _)).trans (Keep.new ha' _), ((g7.new hl2 _).new hb' _).new ha' _⟩
        rw [Tm.size]
        omega
  · rintro σ H2 ⟨t, v, z, y, rfl, tt, ta, tz, k3, g3⟩
    exact ⟨_, rfl, q _ _ t k3 g3 tt ta (by omega)⟩
end

/-! ### _law_chain -/
def spChain (K : PySem.W.Frag) : Sp := fun vs H Q _ => ∃ (st sc pl : Addr) (ns : List Int) (ks : List Key) (d many : Int), vs = [.ref st, .ref sc, .ref pl, .int many] ∧ GOk K H st sc pl ns ks d ∧ 1 ≤ many ∧ many ≤ 10000 ∧
  ∀ (H' : Hp) (v : V) (t : Tm), Keep st H H' → GOk K H' st sc pl ns ks d → TAt K H' v t → t.All HdOk → (t.size : Int) ≤ many → Q v H'
section
variable {P : Program} {w : World} {K : PySem.W.Frag} {mg : Str → Option Value} {base : Heap}
theorem ok_g_chain (T : Txt K mg) : FnOk P w K mg base CX0 4 T.f_g_chain T.fd_g_chain ["state", "script", "pool", "many"] (spChain K) := by
  have GH : FnOk P w K mg base CX0 3 T.f_g_head T.fd_g_head ["state", "script", "pool"] (spHead K) := ok_g_head T
  refine T.d_g_chain.F.ok sc_g_chain (fun vs H Q E h => ?_) (fun cdv A outer s H vs Q E hr h => ?_)
  · obtain ⟨st, sc, pl, ns, ks, d, many, rfl, _⟩ := h
    rfl
  obtain ⟨st, sc, pl, ns, ks, d, many, rfl, g, m0, m1, q⟩ := h
  have nd := sc_g_chain.nd
  refine ⟨_, pss_cons (ps_set (i := 4) nd rfl (.inl rfl) (pe_tup (pa_cons (pe_call GH hr (by rfl) T.d_g_head.m T.d_g_head.F.kp T.d_g_head.b .nil pass0 (pa_cons (pv 0) (pa_cons (pv 1) (pa_cons (pv 2) pa_nil)))) (pa_cons (pe_tup pa_nil) pa_nil))))
    (pss_cons (ps_for PassesOwn.never rfl (pi_range1 (by rfl) T.z_range (pa_cons (pe_op op_sub (pv 3) pe_int) pa_nil)) (pg_name (i := 5) nd rfl (.inl rfl))
      (pss_one (ps_set (i := 4) nd rfl (.inl rfl) (pe_tup (pa_cons (pe_call GH hr (by rfl) T.d_g_head.m T.d_g_head.F.kp T.d_g_head.b .nil pass0 (pa_cons (pv 0) (pa_cons (pv 1) (pa_cons (pv 2) pa_nil)))) (pa_cons (pe_tup (pa_cons (pv 4) pa_nil)) pa_nil))))))
    (pss_one (ps_ret (pv 4)))), ?_⟩
  refine ⟨_, rfl, _, rfl, _, rfl, st, sc, pl, ns, ks, d, rfl, g, fun H1 k k1 g1 hk => ⟨Nat.zero_le _, fun b hb => ⟨(by show 2 ≤ sizeLine; decide), fun a ha => ?_⟩⟩⟩
  have t1 := TAt.leaf (K := K) (k := k) hb ha
  have g2 := (g1.new hb (.tup [])).new ha (.tup [kV k, .ref b])
  have k2 := (k1.trans (Keep.new hb (.tup []))).trans (Keep.new ha (.tup [kV k, .ref b]))
  refine ⟨_, rfl, _, _, rfl, rfl, _, rfl, by omega, by omega, for_range (lo := 0) (n := (many - 1).toNat) (fun i σ H' => ∃ (t : Tm) (v : V) (z : Option V), σ = [some (.ref st), some (.ref sc), some (.ref pl), some (.int many), some v, z] ∧ TAt K H' v t ∧ t.All HdOk ∧ t.size ≤ i + 1 ∧ Keep st H H' ∧ GOk K H' st sc pl ns ks d)
    ⟨.mk k [], _, none, rfl, t1, All.leaf hk, Nat.le_of_eq (leaf_size k), k2, g2⟩ ?_ ?_⟩
  · rintro i σ H2 hi ⟨t, v, z, rfl, tt, ta, tz, k3, g3⟩
    refine ⟨_, rfl, _, rfl, _, rfl, st, sc, pl, ns, ks, d, rfl, g3, fun H4 k' k4 g4 hk' => ⟨_, rfl, (by show 1 ≤ sizeLine; decide), fun b hb => ⟨(by show 2 ≤ sizeLine; decide), fun a ha => ?_⟩⟩⟩
    have tt2 : TAt K (upd H4 b (.tup [v])) v t := (tt.mono (g3.s.ts k4)).mono (TStay.new hb _)
    have t2 := TAt.new (K := K) (k := k') (ts := [t]) (SqT.of (upd_same (H := H4) (a := b) (o := .tup [v]))) (.cons tt2 .nil) (by show 1 ≤ 1000000; decide) ha
    refine ⟨.mk k' [t], _, _, rfl, t2, Tm.All.mk hk' (fun u hu => ?_), ?_, ((k3.trans k4).trans (Keep.new hb _)).trans (Keep.new ha _), (g4.new hb _).new ha _⟩
    · rw [List.mem_singleton.mp hu]
      exact ta
    · rw [Tm.size, Tm.sizeL, Tm.sizeL]
      omega
  · rintro σ H2 ⟨t, v, z, rfl, tt, ta, tz, k3, g3⟩
    exact ⟨_, rfl, q _ _ t k3 g3 tt ta (by omega)⟩
end

/-! ### _law_term -/
def spTerm (K : PySem.W.Frag) : Sp := fun vs H Q _ => ∃ (st sc pl : Addr) (ns : List Int) (ks : List Key) (d most : Int), vs = [.ref st, .ref sc, .ref pl, .int most] ∧ GOk K H st sc pl ns ks d ∧ 1 ≤ most ∧ most ≤ 1000 ∧
  ∀ (H' : Hp) (v : V) (t : Tm) (d' : Int), Keep st H H' → GOk K H' st sc pl ns ks d' → TAt K H' v t → t.All HdOk → (t.size : Int) ≤ most → Q v H'
section
variable {P : Program} {w : World} {K : PySem.W.Frag} {mg : Str → Option Value} {base : Heap}
theorem ok_g_term (T : Txt K mg) : FnOk P w K mg base CX0 96 T.f_g_term T.fd_g_term ["state", "script", "pool", "most"] (spTerm K) := by
  have GP : FnOk P w K mg base CX0 1 T.f_g_pick T.fd_g_pick ["state", "script", "many"] (spPick K) := ok_g_pick T
  have GC : FnOk P w K mg base CX0 4 T.f_g_chain T.fd_g_chain ["state", "script", "pool", "many"] (spChain K) := ok_g_chain T
  have GD : FnOk P w K mg base CX0 4 T.f_g_deep T.fd_g_deep ["state", "script", "pool", "many"] (spDeep K) := ok_g_deep T
  have GA : FnOk P w K mg base CX0 95 T.f_g_any T.fd_g_any ["state", "script", "pool", "depth"] (spAny K 91) := ok_g_any T 91
  refine T.d_g_term.F.ok sc_g_term (fun vs H Q E h => ?_) (fun cdv A outer s H vs Q E hr h => ?_)
  · obtain ⟨st, sc, pl, ns, ks, d, most, rfl, _⟩ := h
    rfl
  obtain ⟨st, sc, pl, ns, ks, d, most, rfl, g, m0, m1, q⟩ := h
  have nd := sc_g_term.nd
  have hr1 : Room 1 _ := hr.mono (by decide)
  have hr4 : Room 4 _ := hr.mono (by decide)
  refine ⟨_, pss_cons (ps_if (pt_cmpR op_eq (pe_call GP hr1 (by rfl) T.d_g_pick.m T.d_g_pick.F.kp T.d_g_pick.b .nil pass0 (pa_cons (pv 0) (pa_cons (pv 1) (pa_cons pe_int pa_nil)))) pe_int (nomark _))
      (pss_one (ps_ret (pe_call GC hr4 (by rfl) T.d_g_chain.m T.d_g_chain.F.kp T.d_g_chain.b .nil pass0 (pa_cons (pv 0) (pa_cons (pv 1) (pa_cons (pv 2) (pa_cons (pe_op op_add pe_int (pe_call GP hr1 (by rfl) T.d_g_pick.m T.d_g_pick.F.kp T.d_g_pick.b .nil pass0 (pa_cons (pv 0) (pa_cons (pv 1) (pa_cons (pv 3) pa_nil))))) pa_nil))))))) pss_nil)
    (pss_cons (ps_if (pt_cmpR op_eq (pe_call GP hr1 (by rfl) T.d_g_pick.m T.d_g_pick.F.kp T.d_g_pick.b .nil pass0 (pa_cons (pv 0) (pa_cons (pv 1) (pa_cons pe_int pa_nil)))) pe_int (nomark _))
      (pss_one (ps_ret (pe_call GD hr4 (by rfl) T.d_g_deep.m T.d_g_deep.F.kp T.d_g_deep.b .nil pass0 (pa_cons (pv 0) (pa_cons (pv 1) (pa_cons (pv 2) (pa_cons (pe_call GP hr1 (by rfl) T.d_g_pick.m T.d_g_pick.F.kp T.d_g_pick.b .nil pass0 (pa_cons (pv 0) (pa_cons (pv 1) (pa_cons
        (pe_op op_add (pe_op op_fdiv (pe_callTy call_int1 (by rfl) T.z_int (by decide +kernel) (pa_cons (pv 3) pa_nil)) pe_int) pe_int) pa_nil)))) pa_nil))))))) pss_nil)
    (pss_cons (ps_asg (pe_call GP hr1 (by rfl) T.d_g_pick.m T.d_g_pick.F.kp T.d_g_pick.b .nil pass0 (pa_cons (pv 0) (pa_cons (pv 1) (pa_cons (pv 3) pa_nil)))) (pg_sub (pv 0) pe_int set_list))
    (pss_one (ps_ret (pe_call GA hr (by rfl) T.d_g_any.m T.d_g_any.F.kp T.d_g_any.b .nil pass0 (pa_cons (pv 0) (pa_cons (pv 1) (pa_cons (pv 2) (pa_cons pe_int pa_nil))))))))), ?_⟩
  refine ⟨_, rfl, _, rfl, st, sc, ns, d, 10, rfl, g.s, g.n63, by decide, by decide, fun H1 r k1 S1 _ _ => ?_⟩
  have g1 := g.of k1 S1
  refine ⟨rfl, _, rfl, ite2 (fun _ => ?_) (fun _ => ?_)⟩
  · refine ⟨_, rfl, _, rfl, _, rfl, _, rfl, _, rfl, _, rfl, st, sc, ns, d, most, rfl, S1, g.n63, by omega, by omega, fun H2 r2 k2 S2 r0 r1 => ⟨_, _, rfl, rfl, ?_⟩⟩
    have g2 := g1.of k2 S2
    exact ⟨st, sc, pl, ns, ks, d, 1 + r2, rfl, g2, by omega, by omega, fun H3 v t k3 g3 tt ta ts => q H3 v t d ((k1.trans k2).trans k3) g3 tt ta (by omega)⟩
  · refine ⟨_, rfl, _, rfl, st, sc, ns, d, 6, rfl, S1, g.n63, by decide, by decide, fun H2 r2 k2 S2 _ _ => ?_⟩
    have g2 := g1.of k2 S2
    have k12 := k1.trans k2
    refine ⟨rfl, _, rfl, ite2 (fun _ => ?_) (fun _ => ?_)⟩
    · have h3 : 0 ≤ most / 3 := Int.ediv_nonneg (by omega) (by decide)
      have h4 : most / 3 * 3 ≤ most := Int.ediv_mul_le _ (by decide)
      refine ⟨_, rfl, _, rfl, _, rfl, _, rfl, _, rfl, _, rfl, .inl ⟨_, rfl, _, _, rfl, rfl, ⟨by decide, by decide⟩, _, _, rfl, rfl, st, sc, ns, d, most / 3 + 1, rfl, S2, g.n63, by omega, by omega, fun H3 r3 k3 S3 r0 r1 => ?_⟩⟩
      have g3 := g2.of k3 S3
      exact ⟨st, sc, pl, ns, ks, d, r3, rfl, g3, by omega, by omega, fun H4 v t k4 g4 tt ta ts => q H4 v t d ((k12.trans k3).trans k4) g4 tt ta (by omega)⟩
    · refine ⟨_, rfl, _, rfl, _, rfl, st, sc, ns, d, most, rfl, S2, g.n63, by omega, by omega, fun H3 r3 k3 S3 r0 r1 => ?_⟩
      obtain ⟨a, b, c, e, a0, b0, c0, c1⟩ := S3.state
      refine ⟨_, rfl, st, _, _, 3, rfl, rfl, e, rfl, ?_⟩
      have k4 : Keep st H3 (upd H3 st (.lst [.int a, .int b, .int c, .int r3])) := Keep.put _
      have g4 : GOk K (upd H3 st (.lst [.int a, .int b, .int c, .int r3])) st sc pl ns ks r3 := (g2.of k3 S3).go k4 ⟨a, b, c, upd_same, a0, b0, c0, c1⟩
      refine ⟨_, rfl, _, rfl, _, rfl, st, sc, pl, ns, ks, r3, 0, rfl, g4, by decide, by decide, by decide, fun H5 v t d5 k5 g5 tt ta ed ez => ?_⟩
      refine q H5 v t d5 (((k12.trans k3).trans k4).trans k5) g5 tt ta ?_
      omega
end

/-! ### _law_heads -/
def spHeads (K : PySem.W.Frag) (n : Nat) : Sp := fun vs H Q _ => ∃ (v : V) (t : Tm), vs = [v] ∧ TAt K H v t ∧ t.high ≤ n ∧ t.size ≤ 100000 ∧
  ∀ (H' : Hp) (p : Addr), Same H H' → H p = none → H' p = some (.lst (t.heads.map kV)) → Q (.ref p) H'
section
variable {P : Program} {w : World} {K : PySem.W.Frag} {mg : Str → Option Value} {base : Heap}
theorem ok_g_heads_step (T : Txt K mg) {n : Nat} (G : FnOk P w K mg base CX0 n T.f_g_heads T.fd_g_heads ["term"] (spHeads K n)) : FnOk P w K mg base CX0 (n + 1) T.f_g_heads T.fd_g_heads ["term"] (spHeads K (n + 1)) := by
  refine T.d_g_heads.F.ok sc_g_heads (fun vs H Q E h => ?_) (fun cdv A outer s H vs Q E hr h => ?_)
  · obtain ⟨v, t, rfl, _⟩ := h
    rfl
  obtain ⟨v, t, rfl, hv, hh, hs, q⟩ := h
  have nd := sc_g_heads.nd
  refine ⟨_, pss_cons (ps_set (i := 1) nd rfl (.inl rfl) (pe_lst (pa_cons (pe_ix ix_tup (pv 0) pe_int (fun _ _ => rfl)) pa_nil)))
    (pss_cons (ps_for PassesOwn.never rfl (pi_tup (pe_ix ix_tup (pv 0) pe_int (fun _ _ => rfl))) (pg_name (i := 2) nd rfl (.inl rfl))
      (pss_one (ps_expr (pe_bm PySem.F.plainAttrs_list PySem.F.slot_list_extend PySem.F.type_list_extend mt_extend (pv 1) (pa_cons (pe_call G hr (by rfl) T.d_g_heads.m T.d_g_heads.F.kp T.d_g_heads.b .nil pass0 (pa_cons (pv 2) pa_nil)) pa_nil)))))
    (pss_one (ps_ret (pv 1)))), ?_⟩
  cases t with
  | mk k ts =>
    obtain ⟨a, b, us, rfl, sa, sb, ds, zl⟩ := hv.inv
    rw [Tm.high] at hh
    rw [Tm.size] at hs
    have lus : us.length = ts.length := by rw [ds.length, List.length_map]; rfl
    refine ⟨_, rfl, a, _, _, _, rfl, rfl, sa, atI_nat (j := 0) rfl, (by show 1 ≤ sizeLine; decide), fun l hl => ?_⟩
    have s1 : Same H (upd H l (.lst [kV k])) := same_new hl _
    refine ⟨_, rfl, a, _, _, _, rfl, rfl, TStay.of s1 _ _ sa, atI_nat (j := 1) rfl, b, rfl, ⟨_, TStay.of s1 _ _ sb⟩, for_tup (K := K) (a := b) (xs := us) (fun i σ H' => ∃ z, σ = [some (.ref a), some (.ref l), z] ∧ Same H H' ∧ H' l = some (.lst ((k :: Tm.headsL (ts.take i)).map kV)))
      ⟨none, rfl, s1, upd_same⟩ (fun i σ H' _ ⟨_, _, s2, _⟩ => TStay.of s2 _ _ sb) ?_ ?_⟩
    · rintro i x σ H2 hx ⟨z, rfl, s2, e2⟩
      obtain ⟨d, hd, dx⟩ := ds.get' hx
      have hi : i < ts.length := by
        have := (List.getElem?_eq_some_iff.mp hx).1
        omega
      have ed : d = (ts[i]).dat := by
        have hd' : (ts.map Tm.dat)[i]? = some d := hd
        rw [List.getElem?_map, List.getElem?_eq_getElem hi] at hd'
        exact (Option.some.inj hd').symm
      subst ed
      have mt := List.getElem_mem hi
      have h1 := Tm.high_mem mt
      have h2 := Tm.size_mem mt
      refine ⟨_, rfl, .inl ⟨rfl, _, SqL.of e2⟩, _, rfl, x, ts[i], rfl, dx.mono (TStay.of s2), by omega, by omega, fun H3 p s3 hp e3 => ?_⟩
      refine ⟨l, p, _, _, rfl, rfl, s3 _ _ e2, e3, ?_, _, rfl, sameUpd (s2.trans s3) hl _, ?_⟩
      · rw [List.length_map, List.length_map, List.length_cons, Tm.headsL_length, Tm.heads_length]
        have h3 : Tm.sizeL (ts.take i) ≤ Tm.sizeL ts := by
          have := Tm.sizeL_append (ts.take i) (ts.drop i)
          rw [List.take_append_drop] at this
          omega
        rw [sizeLine_eq]
        omega
      · rw [upd_same, List.take_add_one, List.getElem?_eq_getElem hi, ← List.map_append, List.cons_append, Option.toList, Tm.headsL_append, Tm.headsL, Tm.headsL, List.append_nil]
    · rintro σ H2 ⟨z, rfl, s2, e2⟩
      refine ⟨_, rfl, q H2 l s2 hl ?_⟩
      rw [e2, lus, List.take_length, Tm.heads]
theorem ok_g_heads (T : Txt K mg) : ∀ n, FnOk P w K mg base CX0 n T.f_g_heads T.fd_g_heads ["term"] (spHeads K n)
  | 0 => fn_none fun vs H Q E ⟨_, t, _, _, h, _, _⟩ => by
    cases t with
    | mk k ts =>
      rw [Tm.high] at h
      omega
  | n + 1 => ok_g_heads_step T (ok_g_heads T n)
end

/-! ### _law_once -/
def spOnce (K : PySem.W.Frag) : Sp := fun vs H Q _ => ∃ (a : Addr) (ks : List Key), vs = [.ref a] ∧ SqL K H a (ks.map kV) ∧ ks.length ≤ 100000 ∧
  ∀ (H' : Hp) (p : Addr), Same H H' → H' p = some (.tup ((dedup ks).map kV)) → Q (.ref p) H'
section
variable {P : Program} {w : World} {K : PySem.W.Frag} {mg : Str → Option Value} {base : Heap}
theorem ok_g_once (T : Txt K mg) : FnOk P w K mg base CX0 1 T.f_g_once T.fd_g_once ["heads"] (spOnce K) := by
  refine T.d_g_once.F.ok sc_g_once (fun vs H Q E h => ?_) (fun cdv A outer s H vs Q E hr h => ?_)
  · obtain ⟨a, ks, rfl, _⟩ := h
    rfl
  obtain ⟨a, ks, rfl, sa, hl, q⟩ := h
  have nd := sc_g_once.nd
  refine ⟨_, pss_cons (ps_set (i := 1) nd rfl (.inl rfl) (pe_lst pa_nil))
    (pss_cons (ps_for PassesOwn.never rfl (pi_list (pv 0)) (pg_name (i := 2) nd rfl (.inl rfl))
      (pss_one (ps_if (pt_cmpR op_notIn_seq (pv 2) (pv 1) (by rfl)) (pss_one (ps_expr (pe_bm PySem.F.plainAttrs_list PySem.F.slot_list_append PySem.F.type_list_append mt_append (pv 1) (pa_cons (pv 2) pa_nil)))) pss_nil)))
    (pss_one (ps_ret (pe_callTy call_tuple_of (by rfl) T.z_tuple (by decide +kernel) (pa_cons (pv 1) pa_nil))))), ?_⟩
  refine ⟨Nat.zero_le _, fun l hn => ?_⟩
  have s1 : Same H (upd H l (.lst [])) := same_new hn _
  refine ⟨_, rfl, a, rfl, ⟨_, s1.seq sa⟩, for_list (K := K) (a := a) (xs := ks.map kV) (fun i σ H' => ∃ z, σ = [some (.ref a), some (.ref l), z] ∧ Same H H' ∧ H' l = some (.lst ((dedup (ks.take i)).map kV)))
    ⟨none, rfl, s1, upd_same⟩ (fun i σ H' _ ⟨_, _, s2, _⟩ => s2.seq sa) ?_ ?_⟩
  · rintro i x σ H2 hx ⟨z, rfl, s2, e2⟩
    have hi : i < ks.length := by
      have := (List.getElem?_eq_some_iff.mp hx).1
      rw [List.length_map] at this
      exact this
    rw [List.getElem?_map, List.getElem?_eq_getElem hi] at hx
    have hx : kV ks[i] = x := Option.some.inj hx
    subst hx
    have et : ks.take (i + 1) = ks.take i ++ [ks[i]] := by
      rw [List.take_add_one, List.getElem?_eq_getElem hi]
      rfl
    refine ⟨_, rfl, _, rfl, l, _, rfl, .inl (SqL.of e2), flat_kV _, flat_keys _, _, rfl, ?_⟩
    rw [inV_kV]
    by_cases hm : ks[i] ∈ dedup (ks.take i)
    · rw [decide_eq_true hm]
      refine iteF ⟨_, rfl, s2, ?_⟩
      rw [et, dedup_snoc, addK, if_pos hm]
      exact e2
    · rw [decide_eq_false hm]
      refine iteT ⟨_, rfl, .inl ⟨rfl, _, SqL.of e2⟩, _, rfl, l, _, _, rfl, rfl, e2, ?_, _, rfl, sameUpd s2 hn _, ?_⟩
      · rw [List.length_map]
        have h1 := dedup_length (ks.take i)
        rw [List.length_take] at h1
        rw [sizeLine_eq]
        omega
      · rw [upd_same, et, dedup_snoc, addK, if_neg hm, List.map_append]
        rfl
  · rintro σ H2 ⟨z, rfl, s2, e2⟩
    rw [List.length_map, List.take_length] at e2
    exact ⟨_, rfl, l, _, rfl, .inl ⟨SqL.of e2, fun p hp => q _ p (s2.trans (same_new hp _)) upd_same⟩⟩
end

/-! ### places -/
def spPlaces (K : PySem.W.Frag) : Sp := fun vs H Q _ => ∃ (v : V) (t : Tm), vs = [v] ∧ TAt K H v t ∧ t.size ≤ 100000 ∧
  ∀ (H' : Hp) (p : Addr) (us : List V), Same H H' → H p = none → H' p = some (.lst us) → DsAt K H' us (t.pre.map Tm.dat) → Q (.ref p) H'
section
variable {P : Program} {w : World} {K : PySem.W.Frag} {mg : Str → Option Value} {base : Heap}
theorem ok_places (T : Txt K mg) : FnOk P w K mg base CX0 1 T.f_places T.fd_places ["term"] (spPlaces K) := by
  refine T.d_places.F.ok sc_places (fun vs H Q E h => ?_) (fun cdv A outer s H vs Q E hr h => ?_)
  · obtain ⟨v, t, rfl, _⟩ := h
    rfl
  obtain ⟨v, t, rfl, hv, hs, q⟩ := h
  have nd := sc_places.nd
  refine ⟨_, pss_cons (ps_set (i := 1) nd rfl (.inl rfl) (pe_lst pa_nil))
    (pss_cons (ps_set (i := 2) nd rfl (.inl rfl) (pe_lst (pa_cons (pv 0) pa_nil)))
    (pss_cons (ps_while PassesOwn.never (pt_truth (pv 2) (by intro _; rfl))
      (pss_cons (ps_set (i := 3) nd rfl (.inl rfl) (pe_bm0 PySem.F.plainAttrs_list PySem.F.slot_list_pop PySem.F.type_list_pop mt_pop (pv 2)))
      (pss_cons (ps_expr (pe_bm PySem.F.plainAttrs_list PySem.F.slot_list_append PySem.F.type_list_append mt_append (pv 1) (pa_cons (pv 3) pa_nil)))
      (pss_one (ps_expr (pe_bm PySem.F.plainAttrs_list PySem.F.slot_list_extend PySem.F.type_list_extend mt_extendT (pv 2) (pa_cons (pe_rT (pe_ix ix_tup (pv 3) pe_int (fun _ _ => rfl))) pa_nil)))))))
    (pss_one (ps_ret (pv 1))))), ?_⟩
  refine ⟨Nat.zero_le _, fun f hf => ?_⟩
  refine ⟨_, rfl, (by show 1 ≤ sizeLine; decide), fun l hl => ?_⟩
  have s1 : Same H (upd H f (.lst [])) := same_new hf _
  have s2 : Same H (upd (upd H f (.lst [])) l (.lst [v])) := s1.trans (same_new hl _)
  have hl0 : H l = none := s1.free hl
  have nfl : f ≠ l := ne_of_none upd_same hl
  refine ⟨fun m σ H' => ∃ (ts done : List Tm) (us ws : List V) (z : Option V), σ = [some v, some (.ref f), some (.ref l), z] ∧ Same H H' ∧ H' f = some (.lst us) ∧ H' l = some (.lst ws) ∧ DsAt K H' us (done.map Tm.dat) ∧ DsAt K H' ws.reverse (ts.map Tm.dat) ∧ done ++ Tm.preL ts = t.pre ∧ m = Tm.sizeL ts,
    ⟨_, [t], [], [], [v], none, rfl, s2, ?_, upd_same, .nil, .cons (hv.mono (TStay.of s2)) .nil, ?_, rfl⟩, ?_⟩
  · rw [upd_ne nfl]
    exact upd_same
  · rw [Tm.preL, Tm.preL, List.nil_append, List.append_nil]
  · rintro m σ H' ⟨ts, done, us, ws, z, rfl, s3, ef, el, dd, dt, ep, rfl⟩
    have hsz : done.length + Tm.sizeL ts = t.size := by rw [← Tm.pre_length t, ← ep, List.length_append, Tm.preL_length]
    have lus : us.length = done.length := by rw [dd.length, List.length_map]
    have lws : ws.length = ts.length := by rw [← List.length_reverse, dt.length, List.length_map]
    refine ⟨_, rfl, _, .inl ⟨ws, SqL.of el, rfl⟩, ?_⟩
    cases ts with
    | nil =>
      have hw : ws = [] := List.eq_nil_of_length_eq_zero lws
      subst hw
      refine iteF ⟨_, rfl, q H' f us s3 hf ef ?_⟩
      rw [Tm.preL, List.append_nil] at ep
      rw [← ep]
      exact dd
    | cons x r =>
      cases x with
      | mk k args =>
        have hne : ws ≠ [] := fun e => by
          rw [e] at lws
          cases lws
        have ht : (!ws.isEmpty) = true := by
          cases ws with
          | nil => exact absurd rfl hne
          | cons _ _ => rfl
        rw [ht]
        refine iteT ⟨_, fun _ _ h => h, ?_⟩
        obtain ⟨y, wr, ew⟩ : ∃ y wr, ws = wr ++ [y] := ⟨ws.getLast hne, ws.dropLast, (List.dropLast_concat_getLast hne).symm⟩
        subst ew
        rw [List.reverse_append] at dt
        have dt : DsAt K H' (y :: wr.reverse) ((Tm.mk k args :: r).map Tm.dat) := dt
        rw [List.map_cons] at dt
        cases dt with
        | cons dy dr =>
          have dy : TAt K H' y (.mk k args) := dy
          refine ⟨_, rfl, .inl ⟨rfl, _, SqL.of el⟩, l, _, y, rfl, rfl, el, ?_, ?_⟩
          · rw [List.length_append, List.length_singleton, Nat.add_sub_cancel, List.getElem?_append_right (Nat.le_refl _), Nat.sub_self]
            rfl
          rw [List.dropLast_concat]
          have s4 : Same H (upd H' l (.lst wr)) := sameUpd s3 hl0 _
          have t4 : TStay K H' (upd H' l (.lst wr)) := TStay.lst el _
          have ef4 : (upd H' l (.lst wr)) f = some (.lst us) := by
            rw [upd_ne nfl]
            exact ef
          have lr : (Tm.sizeL r : Nat) + (Tm.sizeL args + 1) = Tm.sizeL (Tm.mk k args :: r) := by
            rw [Tm.sizeL, Tm.size]
            omega
          have hargs := Tm.len_sizeL args
          have hr' := Tm.len_sizeL r
          refine ⟨_, rfl, .inl ⟨rfl, _, SqL.of ef4⟩, _, rfl, f, us, y, rfl, rfl, ef4, by rw [lus, sizeLine_eq]; omega, ?_⟩
          have s5 : Same H (upd (upd H' l (.lst wr)) f (.lst (us ++ [y]))) := sameUpd s4 hf _
          have t5 : TStay K H' (upd (upd H' l (.lst wr)) f (.lst (us ++ [y]))) := t4.trans (TStay.lst ef4 _)
          have el5 : (upd (upd H' l (.lst wr)) f (.lst (us ++ [y]))) l = some (.lst wr) := by
            rw [upd_ne nfl.symm]
            exact upd_same
          have ef5 : (upd (upd H' l (.lst wr)) f (.lst (us ++ [y]))) f = some (.lst (us ++ [y])) := upd_same
          have dy5 := dy.mono t5
          obtain ⟨a, b, as, rfl, sa, sb, da, za⟩ := TAt.inv dy5
          have da : DsAt K _ as (args.map Tm.dat) := da
          have las : as.length = args.length := by rw [da.length, List.length_map]
          refine ⟨_, rfl, .inl ⟨rfl, _, SqL.of el5⟩, _, rfl, a, _, _, _, rfl, rfl, sa, atI_nat (j := 1) rfl, b, as, rfl, sb, fun p hp => ?_⟩
          have lwr : wr.length = r.length := by
            rw [List.length_append, List.length_cons] at lws
            exact Nat.succ.inj lws
          have s6 : Same (upd (upd H' l (.lst wr)) f (.lst (us ++ [.ref a]))) (upd (upd (upd H' l (.lst wr)) f (.lst (us ++ [.ref a]))) p (.tup as.reverse)) := same_new hp _
          have t6 : TStay K (upd (upd H' l (.lst wr)) f (.lst (us ++ [.ref a]))) (upd (upd (upd H' l (.lst wr)) f (.lst (us ++ [.ref a]))) p (.tup as.reverse)) := TStay.new hp _
          refine ⟨l, p, wr, as.reverse, rfl, rfl, s6 _ _ el5, upd_same, by rw [List.length_reverse, lwr, las, sizeLine_eq]; omega, ?_⟩
          have t7 := t6.trans (TStay.lst (K := K) (s6 _ _ el5) (.lst (wr ++ as.reverse)))
          refine ⟨Tm.sizeL (args ++ r), by rw [Tm.sizeL_append]; omega, args ++ r, done ++ [.mk k args], us ++ [.ref a], wr ++ as.reverse, _, rfl, sameUpd (s5.trans s6) hl0 _, ?_, upd_same, ?_, ?_, ?_, rfl⟩
          · rw [upd_ne nfl]
            exact s6 _ _ ef5
          · rw [List.map_append]
            exact DsAt.append ((dd.mono t5).mono t7) (.cons (dy5.mono t7) .nil)
          · rw [List.reverse_append, List.reverse_reverse, List.map_append]
            exact DsAt.append (da.mono t7) ((dr.mono t5).mono t7)
          · rw [← ep, Tm.preL_append, Tm.preL, Tm.pre, List.append_assoc, List.cons_append]
            rfl
end

/-! ### applied, assembled, put -/
def spApplied (K : PySem.W.Frag) : Sp := fun vs H Q _ => ∃ (v : V) (b : Addr) (t : Tm) (ws : List V) (ts : List Tm), vs = [v, .ref b] ∧ TAt K H v t ∧ SqT K H b ws ∧ DsAt K H ws (ts.map Tm.dat) ∧ t.args.length ≤ 400000 ∧ ts.length ≤ 400000 ∧
  ∀ (H' : Hp) (u : V), Same H H' → TAt K H' u (t.appl ts) → Q u H'
def spAssembled (K : PySem.W.Frag) : Sp := fun vs H Q _ => ∃ (a : Addr) (us : List V) (rows : List (Tm × Nat)) (t : Tm), vs = [.ref a] ∧ SqL K H a us ∧ DsAt K H us (rows.map rowD) ∧ Wf rows ∧ rows.length ≤ 300000 ∧ (∀ r ∈ rows, r.1.args.length ≤ 100000) ∧ run rows = [t] ∧
  ∀ (H' : Hp) (u : V), Same H H' → TAt K H' u t → Q u H'
section
variable {P : Program} {w : World} {K : PySem.W.Frag} {mg : Str → Option Value} {base : Heap}
theorem ok_applied (T : Txt K mg) : FnOk P w K mg base CX0 1 T.f_applied T.fd_applied ["term", "arguments"] (spApplied K) := by
  refine T.d_applied.F.ok sc_applied (fun vs H Q E h => ?_) (fun cdv A outer s H vs Q E hr h => ?_)
  · obtain ⟨v, b, t, ws, ts, rfl, _⟩ := h
    rfl
  obtain ⟨v, b, t, ws, ts, rfl, hv, sb, db, z1, z2, q⟩ := h
  refine ⟨_, pss_one (ps_ret (pe_tup (pa_cons (pe_ix ix_tup (pv 0) pe_int (fun _ _ => rfl)) (pa_cons (pe_op op_catA (pe_ix ix_tup (pv 0) pe_int (fun _ _ => rfl)) (pv 1)) pa_nil)))), ?_⟩
  obtain ⟨a, c, us, rfl, sa, sc, dc, zc⟩ := hv.inv
  have lus : us.length = t.args.length := by rw [dc.length, List.length_map]
  have lws : ws.length = ts.length := by rw [db.length, List.length_map]
  refine ⟨_, rfl, a, _, _, _, rfl, rfl, sa, atI_nat (j := 0) rfl, _, rfl, a, _, _, _, rfl, rfl, sa, atI_nat (j := 1) rfl, _, rfl, c, b, us, ws, rfl, rfl, sc, sb, ?_, fun e1 => ?_, fun e1 e2 => ?_, fun e1 e2 p hp => ?_⟩
  · rw [lus, lws, sizeLine_eq]
    omega
  · have e3 : t.args = [] := List.eq_nil_of_length_eq_zero (by rw [← lus, e1]; rfl)
    refine ⟨(by show 2 ≤ sizeLine; decide), fun x hx => q _ _ (same_new hx _) ?_⟩
    unfold Tm.appl
    rw [e3, List.nil_append]
    exact TAt.new sb db (by omega) hx
  · have e3 : ts = [] := List.eq_nil_of_length_eq_zero (by rw [← lws, e2]; rfl)
    refine ⟨(by show 2 ≤ sizeLine; decide), fun x hx => q _ _ (same_new hx _) ?_⟩
    unfold Tm.appl
    rw [e3, List.append_nil]
    exact TAt.new sc dc zc hx
  · refine ⟨(by show 2 ≤ sizeLine; decide), fun x hx => q _ _ ((same_new hp _).trans (same_new hx _)) ?_⟩
    unfold Tm.appl
    refine TAt.new (SqT.of upd_same) ?_ (by rw [List.length_append]; omega) hx
    rw [List.map_append]
    exact (DsAt.append dc db).mono (TStay.new hp _)
theorem ok_assembled (T : Txt K mg) : FnOk P w K mg base CX0 2 T.f_assembled T.fd_assembled ["rows"] (spAssembled K) := by
  have G : FnOk P w K mg base CX0 1 T.f_applied T.fd_applied ["term", "arguments"] (spApplied K) := ok_applied T
  refine T.d_assembled.F.ok sc_assembled (fun vs H Q E h => ?_) (fun cdv A outer s H vs Q E hr h => ?_)
  · obtain ⟨a, us, rows, t, rfl, _⟩ := h
    rfl
  obtain ⟨a, us, rows, t, rfl, sa, da, hw, hl, hz, er, q⟩ := h
  have nd := sc_assembled.nd
  refine ⟨_, pss_cons (ps_set (i := 1) nd rfl (.inl rfl) (pe_lst pa_nil))
    (pss_cons (ps_for PassesOwn.never rfl (pi_reversed (by rfl) T.z_reversed (pa_cons (pv 0) pa_nil)) (pg_tup rfl (pgs_cons (pg_name (i := 2) nd rfl (.inl rfl)) (pgs_cons (pg_name (i := 3) nd rfl (.inl rfl)) pgs_nil)))
      (pss_cons (ps_set (i := 4) nd rfl (.inl rfl) (pe_op op_sub (pe_callB call_len_seq (by rfl) T.z_len PySem.boot_len (pa_cons (pv 1) pa_nil)) (pv 3)))
      (pss_cons (ps_set (i := 5) nd rfl (.inl rfl) (pe_callTy call_tuple_of (by rfl) T.z_tuple (by decide +kernel) (pa_cons (pe_rL (pe_slice sl_list (pv 1) (po_some (pv 4)) po_none)) pa_nil)))
      (pss_cons (ps_delFrom (pv 1) (pv 4))
      (pss_one (ps_expr (pe_bm PySem.F.plainAttrs_list PySem.F.slot_list_append PySem.F.type_list_append mt_append (pv 1) (pa_cons (pe_call G hr (by rfl) T.d_applied.m T.d_applied.F.kp T.d_applied.b .nil pass0 (pa_cons (pv 2) (pa_cons (pv 5) pa_nil))) pa_nil))))))))
    (pss_one (ps_ret (pe_ix ix_list (pv 1) pe_int (fun _ _ => rfl))))), ?_⟩
  have lus : us.length = rows.length := by rw [da.length, List.length_map]
  refine ⟨Nat.zero_le _, fun l hn => ?_⟩
  have s1 : Same H (upd H l (.lst [])) := same_new hn _
  refine ⟨_, rfl, a, us, rfl, s1.seq sa, RT.for_Itv (K := K) (a := a) (xs := us) (fun i σ H' => ∃ (ws : List V) (z2 z3 z4 z5 : Option V), σ = [some (.ref a), some (.ref l), z2, z3, z4, z5] ∧ Same H H' ∧ H' l = some (.lst ws) ∧ DsAt K H' ws ((run (rows.drop (rows.length - i))).map Tm.dat))
    ⟨[], none, none, none, none, rfl, s1, upd_same, ?_⟩ (fun i σ H' ⟨_, _, _, _, _, _, s2, _⟩ => s2.seq sa) ?_ ?_⟩
  · rw [Nat.sub_zero, List.drop_length]
    exact .nil
  · rintro i x σ H2 hi hx ⟨ws, z2, z3, z4, z5, rfl, s2, e2, d2⟩
    obtain ⟨d, hd, dx⟩ := da.get' hx
    have hj : rows.length - 1 - i < rows.length := by omega
    rw [lus, List.getElem?_map, List.getElem?_eq_getElem hj] at hd
    have hd : rowD rows[rows.length - 1 - i] = d := Option.some.inj hd
    subst hd
    have hsp : rows.drop (rows.length - (i + 1)) = rows[rows.length - 1 - i] :: rows.drop (rows.length - i) := by
      have h1 := List.drop_eq_getElem_cons hj
      rw [show rows.length - 1 - i + 1 = rows.length - i by omega] at h1
      rw [show rows.length - (i + 1) = rows.length - 1 - i by omega]
      exact h1
    have hwf : ∀ (n : Nat) (rs : List (Tm × Nat)), Wf rs → Wf (rs.drop n) := by
      intro n
      induction n with
      | zero => intro rs h; exact h
      | succ n ih =>
        intro rs h
        cases rs with
        | nil => exact h
        | cons r rest => exact ih rest h.2
    have hw2 := hwf (rows.length - (i + 1)) rows hw
    rw [hsp] at hw2
    have hrow := List.getElem_mem hj
    generalize rows[rows.length - 1 - i] = row at hsp hw2 dx hrow
    obtain ⟨r, u, rfl, sr, tu⟩ := rowD_inv (dx.mono (TStay.of s2))
    have hc : row.2 ≤ (run (rows.drop (rows.length - i))).length := hw2.1
    have lws : ws.length = (run (rows.drop (rows.length - i))).length := by rw [d2.length, List.length_map]
    have lrun : (run (rows.drop (rows.length - i))).length ≤ 300000 := by
      have h1 := run_length (rows.drop (rows.length - i))
      rw [List.length_drop] at h1
      omega
    rw [hsp, run]
    generalize run (rows.drop (rows.length - i)) = S at d2 hc lws lrun
    -- part, count = row
    refine ⟨r, _, rfl, sr, rfl, _, _, rfl, _, _, rfl, rfl, ?_⟩
    -- at = len(built) - count
    refine ⟨_, rfl, l, _, rfl, .inl (SqL.of e2), _, rfl, _, _, rfl, rfl, ?_⟩
    have ea : (ws.length : Int) - (row.2 : Int) = (((ws.length - row.2 : Nat)) : Int) := by omega
    -- arguments = tuple(built[at:][::-1])
    have hcut : cutV ws (some ((ws.length : Int) - (row.2 : Int))) none = ws.drop (ws.length - row.2) := by
      rw [ea]
      unfold cutV
      rw [HT.sIx_none, show HT.sIx ws.length 0 (some (((ws.length - row.2 : Nat)) : Int)) = min (ws.length - row.2) ws.length from HT.sIx_nat ws.length 0 _, Nat.min_eq_left (Nat.sub_le _ _)]
      exact List.take_of_length_le (by rw [List.length_drop]; exact Nat.le_refl _)
    refine ⟨_, rfl, _, rfl, (ws.length : Int) - (row.2 : Int), rfl, l, ws, rfl, SqL.of e2, fun p hp => ?_⟩
    rw [hcut]
    refine ⟨p, _, rfl, SqL.of upd_same, fun p2 hp2 => ⟨p2, _, rfl, .inl ⟨SqL.of upd_same, fun b hb => ?_⟩⟩⟩
    have k3 : Same H2 (upd (upd (upd H2 p (.lst (ws.drop (ws.length - row.2)))) p2 (.lst (ws.drop (ws.length - row.2)).reverse)) b (.tup (ws.drop (ws.length - row.2)).reverse)) := ((same_new hp _).trans (same_new hp2 _)).trans (same_new hb _)
    generalize hH3 : upd (upd (upd H2 p (.lst (ws.drop (ws.length - row.2)))) p2 (.lst (ws.drop (ws.length - row.2)).reverse)) b (.tup (ws.drop (ws.length - row.2)).reverse) = H3 at k3
    have eb : SqT K H3 b (ws.drop (ws.length - row.2)).reverse := by
      rw [← hH3]
      exact SqT.of upd_same
    have e3 : H3 l = some (.lst ws) := k3 _ _ e2
    have d3 := d2.mono (TStay.of k3)
    have tu3 := tu.mono (TStay.of (K := K) k3)
    -- del built[at:]
    refine ⟨_, rfl, _, rfl, l, ws, ws.length - row.2, rfl, congrArg V.int ea, e3, Nat.sub_le _ _, ?_⟩
    have s4 := sameUpd (s2.trans k3) hn (.lst (ws.take (ws.length - row.2)))
    have t4 : TStay K H3 (upd H3 l (.lst (ws.take (ws.length - row.2)))) := TStay.lst e3 _
    -- built.append(applied(part, arguments))
    have dargs : DsAt K (upd H3 l (.lst (ws.take (ws.length - row.2)))) (ws.drop (ws.length - row.2)).reverse (((S.drop (S.length - row.2)).reverse).map Tm.dat) := by
      rw [List.map_reverse, List.map_drop, ← lws]
      exact (d3.mono t4).drop _ |>.reverse
    refine ⟨_, rfl, .inl ⟨rfl, _, SqL.of upd_same⟩, _, rfl, _, rfl, u, b, row.1, _, (S.drop (S.length - row.2)).reverse, rfl, tu3.mono t4, t4 _ _ eb, dargs, Nat.le_trans (hz row hrow) (by decide), ?_, fun H5 v5 s5 t5 => ?_⟩
    · rw [List.length_reverse, List.length_drop]
      omega
    · have e5 : H5 l = some (.lst (ws.take (ws.length - row.2))) := s5 _ _ upd_same
      refine ⟨l, _, v5, rfl, rfl, e5, ?_, _, _, _, _, _, rfl, sameUpd (s4.trans s5) hn _, upd_same, ?_⟩
      · rw [List.length_take, sizeLine_eq]
        omega
      · unfold step
        have hh : ws.length - row.2 = S.length - row.2 := by rw [lws]
        rw [← hh] at t5 ⊢
        rw [List.map_append, List.map_take]
        exact (DsAt.append (((d3.mono t4).mono (TStay.of s5)).take _) (.cons t5 .nil)).mono (TStay.lst e5 _)
  · rintro σ H2 ⟨ws, z2, z3, z4, z5, rfl, s2, e2, d2⟩
    rw [lus, Nat.sub_self, List.drop_zero, er] at d2
    cases d2 with
    | cons d2 dn =>
      cases dn
      exact ⟨_, rfl, l, _, _, _, rfl, rfl, SqL.of e2, atI_nat (j := 0) rfl, q _ _ s2 d2⟩
end

/-! ### put -/
def spPut (K : PySem.W.Frag) : Sp := fun vs H Q _ => ∃ (v : V) (pa : Addr) (t : Tm) (us : List V) (ps : List (Int × Tm)), vs = [v, .ref pa] ∧ TAt K H v t ∧ t.size ≤ 100000 ∧ SqT K H pa us ∧ DsAt K H us (ps.map partD) ∧ (ps.map (·.1)).Nodup ∧ ps.length ≤ 100000 ∧ (∀ p ∈ ps, p.2.size ≤ 100000) ∧
  ∀ (H' : Hp) (u : V), Same H H' → TAt K H' u (t.put ps) → Q u H'
/-- the dict holds the parts -/
def KvOk (K : PySem.W.Frag) (H : Hp) (kvs : List (Key × V)) (ps : List (Int × Tm)) : Prop := kvs.map (·.1) = ps.map (fun p => Sum.inl p.1) ∧ DsAt K H (kvs.map (·.2)) (ps.map (·.2.dat))
theorem KvOk.look {K : PySem.W.Frag} {H : Hp} (k : Key) : ∀ {kvs : List (Key × V)} {ps : List (Int × Tm)}, KvOk K H kvs ps → (valV kvs k = none ∧ look ps k = none) ∨ ∃ v u, valV kvs k = some v ∧ look ps k = some u ∧ TAt K H v u
  | [], [], _ => .inl ⟨rfl, by cases k <;> rfl⟩
  | [], _ :: _, h => by cases h.1
  | _ :: _, [], h => by cases h.1
  | kv :: kvs, p :: ps, ⟨h1, h2⟩ => by
    rw [List.map_cons, List.map_cons] at h1 h2
    obtain ⟨e1, e2⟩ := List.cons.inj h1
    cases h2 with
    | cons d1 d2 =>
      by_cases hk : kv.1 = k
      · refine .inr ⟨kv.2, p.2, valV_pos hk, ?_, d1⟩
        rw [← hk, e1]
        show ((p :: ps).find? fun q => decide (q.1 = p.1)).map (·.2) = some p.2
        rw [List.find?_cons, decide_eq_true rfl]
        rfl
      · rw [valV_neg hk]
        have e : DF.look (p :: ps) k = DF.look ps k := by
          cases k with
          | inr x => rfl
          | inl i =>
            show ((p :: ps).find? fun q => decide (q.1 = i)).map (·.2) = (ps.find? fun q => decide (q.1 = i)).map (·.2)
            rw [List.find?_cons, decide_eq_false (fun z => hk (by rw [e1, z]))]
        rw [e]
        exact KvOk.look k ⟨e2, d2⟩
theorem KvOk.mono {K : PySem.W.Frag} {H H' : Hp} {kvs : List (Key × V)} {ps : List (Int × Tm)} (h : KvOk K H kvs ps) (s : TStay K H H') : KvOk K H' kvs ps := ⟨h.1, h.2.mono s⟩
theorem find_mem {ps : List (Int × Tm)} {k : Key} {u : Tm} (h : look ps k = some u) : ∃ p ∈ ps, p.2 = u := by
  cases k with
  | inr x => cases h
  | inl i =>
    have e : (ps.find? fun p => decide (p.1 = i)).map (·.2) = some u := h
    cases e2 : ps.find? fun p => decide (p.1 = i) with
    | none =>
      rw [e2] at e
      cases e
    | some p =>
      rw [e2] at e
      cases e
      exact ⟨p, List.mem_of_find?_eq_some e2, rfl⟩
theorem sub_args {ps : List (Int × Tm)} {m : Nat} (h : ∀ p ∈ ps, p.2.size ≤ m) (k : Key) : (sub ps k).args.length ≤ m := by
  unfold sub
  cases e : look ps k with
  | none => exact Nat.zero_le _
  | some u =>
    obtain ⟨p, hp, rfl⟩ := find_mem e
    have h1 := h p hp
    show p.2.args.length ≤ m
    generalize p.2 = u at h1
    cases u with
    | mk a as =>
      rw [Tm.size] at h1
      have h2 := Tm.len_sizeL as
      show as.length ≤ m
      omega
mutual
theorem pre_args : ∀ (t u : Tm), u ∈ t.pre → u.args.length ≤ t.size
  | .mk h ts, u, hu => by
    rw [Tm.pre] at hu
    rw [Tm.size]
    rcases List.mem_cons.mp hu with rfl | hu
    · have h2 := Tm.len_sizeL ts
      show ts.length ≤ _
      omega
    · have := preL_args ts u hu
      omega
theorem preL_args : ∀ (ts : List Tm) (u : Tm), u ∈ Tm.preL ts → u.args.length ≤ Tm.sizeL ts
  | [], u, hu => by
    rw [Tm.preL] at hu
    exact absurd hu List.not_mem_nil
  | t :: r, u, hu => by
    rw [Tm.preL] at hu
    rw [Tm.sizeL]
    rcases List.mem_append.mp hu with hu | hu
    · have := pre_args t u hu
      omega
    · have := preL_args r u hu
      omega
end
section
variable {P : Program} {w : World} {K : PySem.W.Frag} {mg : Str → Option Value} {base : Heap}
theorem ok_put (T : Txt K mg) : FnOk P w K mg base CX0 3 T.f_put T.fd_put ["term", "parts"] (spPut K) := by
  have GA : FnOk P w K mg base CX0 2 T.f_assembled T.fd_assembled ["rows"] (spAssembled K) := ok_assembled T
  have GP : FnOk P w K mg base CX0 1 T.f_places T.fd_places ["term"] (spPlaces K) := ok_places T
  refine T.d_put.F.ok sc_put (fun vs H Q E h => ?_) (fun cdv A outer s H vs Q E hr h => ?_)
  · obtain ⟨v, pa, t, us, ps, rfl, _⟩ := h
    rfl
  obtain ⟨v, pa, t, us, ps, rfl, hv, hs, sp, dp, hnd, hl, hz, q⟩ := h
  have nd := sc_put.nd
  have hr1 : Room 1 _ := hr.mono (by decide)
  refine ⟨_, pss_cons (ps_set (i := 4) nd rfl (.inr rfl) (pe_dc (own := [("unknown", 2), ("part", 3)]) (g := gTup K 2 (gCons (gName 2) (gCons (gName 3) gNil))) (tt := tYes) rfl nd (pi_tup (pv 1)) (blkOk_by (own := [("unknown", 2), ("part", 3)]) (N := ["term", "parts", "unknown", "part", "part_of", "head", "arguments"]) (sc := defScope s_put) (by decide +kernel))
      (fun _ _ _ _ _ => pg_tup rfl (pgs_cons (pg_name (i := 2) nd rfl (.inl rfl)) (pgs_cons (pg_name (i := 3) nd rfl (.inl rfl)) pgs_nil))) (fun _ _ _ _ _ => pts_nil) (fun _ _ _ _ _ => pv 2) (fun _ _ _ _ _ => pv 3)))
    (pss_one (ps_ret (pe_call GA hr (by rfl) T.d_assembled.m T.d_assembled.F.kp T.d_assembled.b .nil pass0 (pa_cons
      (pe_lc (own := [("head", 5), ("arguments", 6)]) (g := gTup K 2 (gCons (gName 5) (gCons (gName 6) gNil))) (tt := tYes) rfl nd (pi_list (pe_call GP hr1 (by rfl) T.d_places.m T.d_places.F.kp T.d_places.b .nil pass0 (pa_cons (pv 0) pa_nil))) (blkOk_by (own := [("head", 5), ("arguments", 6)]) (N := ["term", "parts", "unknown", "part", "part_of", "head", "arguments"]) (sc := defScope s_put) (by decide +kernel))
        (fun _ _ _ _ _ => pg_tup rfl (pgs_cons (pg_name (i := 5) nd rfl (.inl rfl)) (pgs_cons (pg_name (i := 6) nd rfl (.inl rfl)) pgs_nil))) (fun _ _ _ _ _ => pts_nil)
        (fun _ _ _ _ _ => pe_tup (pa_cons (pe_dget2 (hu_of hr) (pv 4) (pv 5) (pe_tup (pa_cons (pv 5) (pa_cons (pe_tup pa_nil) pa_nil))) ⟨rfl, rfl, rfl, rfl⟩)
          (pa_cons (pe_callB (len_at (K := K) rfl) (by rfl) T.z_len PySem.boot_len (pa_cons (pv 6) pa_nil)) pa_nil)))) pa_nil)))), ?_⟩
  have lus : us.length = ps.length := by rw [dp.length, List.length_map]
  refine ⟨_, rfl, pa, rfl, ⟨_, sp⟩, fun D hD => dc_tup (K := K) (a := pa) (xs := us) (fun i H' => ∃ kvs, H' D = some (.dK kvs) ∧ KvOk K H' kvs (ps.take i) ∧ Same H H')
    ⟨[], upd_same, ⟨rfl, .nil⟩, same_new hD _⟩ (fun i H' _ ⟨_, _, _, s2⟩ => TStay.of s2 _ _ sp) ?_ ?_⟩
  · rintro i x H2 hx ⟨kvs, e2, ok, s2⟩
    obtain ⟨d, hd, dx⟩ := dp.get' hx
    have hi : i < ps.length := by
      have := (List.getElem?_eq_some_iff.mp hx).1
      omega
    rw [List.getElem?_map, List.getElem?_eq_getElem hi] at hd
    have hd : partD ps[i] = d := Option.some.inj hd
    subst hd
    obtain ⟨a, u, rfl, sa, tu⟩ := partD_inv (dx.mono (TStay.of s2))
    have hk : valV kvs (.inl (ps[i]).1) = none := by
      rcases ok.look (.inl (ps[i]).1) with ⟨h, _⟩ | ⟨v', u', _, h2, _⟩
      · exact h
      · exfalso
        have e : ((ps.take i).find? fun p => decide (p.1 = (ps[i]).1)).map (·.2) = some u' := h2
        cases e2 : (ps.take i).find? fun p => decide (p.1 = (ps[i]).1) with
        | none =>
          rw [e2] at e
          cases e
        | some p =>
          have hp := List.mem_of_find?_eq_some e2
          have hq := List.find?_some e2
          obtain ⟨j, hj, ej⟩ := List.getElem_of_mem hp
          have hj' : j < i := by
            rw [List.length_take] at hj
            omega
          rw [List.getElem_take] at ej
          have h5 : (ps[j]).1 = (ps[i]).1 := by
            rw [ej]
            exact of_decide_eq_true hq
          have h6 : (ps.map (·.1))[j]'(by rw [List.length_map]; omega) = (ps.map (·.1))[i]'(by rw [List.length_map]; omega) := by
            rw [List.getElem_map, List.getElem_map]
            exact h5
          have := (List.getElem_inj hnd).mp h6
          omega
    have lk : kvs.length = i := by
      have := congrArg List.length ok.1
      rw [List.length_map, List.length_map, List.length_take] at this
      omega
    have tD : TStay K H2 (upd H2 D (.dK (kvs ++ [(.inl (ps[i]).1, u)]))) := fun b ys h => by
      rcases h with (h | ⟨o, h⟩) | h
      · exact .inl (.inl (by rw [upd_ne (ne_of h e2 (by intro z; cases z))]; exact h))
      · exact .inl (.inr ⟨o, by rw [upd_ne (ne_of h e2 (by intro z; cases z))]; exact h⟩)
      · exact .inr h
    refine ⟨a, _, rfl, sa, rfl, _, _, rfl, _, _, rfl, rfl, rfl, ?_⟩
    refine yesT ?_
    refine ⟨_, rfl, _, rfl, kvs, .inl (ps[i]).1, rfl, e2, by rw [lk, sizeLine_eq]; omega, _, upd_same, ?_, sameUpd s2 hD _⟩
    rw [putK_new _ hk, List.take_add_one, List.getElem?_eq_getElem hi]
    constructor
    · rw [List.map_append, List.map_append, ok.1]
      rfl
    · rw [List.map_append, List.map_append]
      exact (DsAt.append ok.2 (.cons tu .nil)).mono tD
  · rintro H2 ⟨kvs, e2, ok, s2⟩
    rw [lus, List.take_length] at ok
    refine ⟨_, rfl, v, t, rfl, hv.mono (TStay.of (K := K) s2), hs, fun H3 p us3 s3 hp e3 ds3 => ⟨p, rfl, ⟨_, SqL.of e3⟩, fun D2 hD2 => lc_list (K := K) (a := p) (xs := us3) (fun i H' => Same H3 H' ∧ ∃ rs, H' D2 = some (.lst rs) ∧ DsAt K H' rs ((rowsOf (sub ps) (t.pre.take i)).map rowD))
      ⟨same_new hD2 _, [], upd_same, .nil⟩ (fun i H' _ ⟨s4, _⟩ => s4.seq (SqL.of e3)) ?_ ?_⟩⟩
    · rintro i x H4 hx ⟨s4, rs, e4, d4⟩
      obtain ⟨d, hd, dx⟩ := ds3.get' hx
      have hi : i < t.pre.length := by
        have h1 := (List.getElem?_eq_some_iff.mp hx).1
        have h2 := ds3.length
        rw [List.length_map] at h2
        omega
      rw [List.getElem?_map, List.getElem?_eq_getElem hi] at hd
      have hd : (t.pre[i]).dat = d := Option.some.inj hd
      subst hd
      have hm := pre_args t _ (List.getElem_mem hi)
      have stp : rowsOf (sub ps) (t.pre.take (i + 1)) = rowsOf (sub ps) (t.pre.take i) ++ [(sub ps (t.pre[i]).hd, (t.pre[i]).args.length)] := by
        rw [List.take_add_one, List.getElem?_eq_getElem hi]
        unfold rowsOf
        rw [List.map_append]
        rfl
      rw [stp]
      have lrs : rs.length ≤ i := by
        have := d4.length
        unfold rowsOf at this
        rw [List.length_map, List.length_map, List.length_take] at this
        omega
      have hi2 : i < 100000 := by
        rw [Tm.pre_length] at hi
        omega
      obtain ⟨a, b, as, rfl, sa, sb, da, za⟩ := TAt.inv (dx.mono (TStay.of s4))
      have las : as.length = (t.pre[i]).args.length := by rw [da.length, List.length_map]
      generalize t.pre[i] = x at sa da las hm stp
      refine ⟨a, _, rfl, sa, rfl, _, _, rfl, _, _, rfl, rfl, rfl, ?_⟩
      refine yesT ?_
      have s24 := s3.trans s4
      have eD : H4 D = some (.dK kvs) := s24 _ _ e2
      have ok4 := ok.mono (TStay.of s24)
      refine ⟨_, rfl, D, rfl, .inl ⟨kvs, .inl eD⟩, _, rfl, _, rfl, Nat.zero_le _, fun b' hb' => ⟨(by show 2 ≤ sizeLine; decide), fun a' ha' => ?_⟩⟩
      have s5 : Same H4 (upd (upd H4 b' (.tup [])) a' (.tup [kV x.hd, .ref b'])) := (same_new hb' _).trans (same_new ha' _)
      have t5 := TAt.leaf (K := K) (k := x.hd) hb' ha'
      refine ⟨valV kvs x.hd, DGet.k (s5 _ _ eD), ?_⟩
      have hval : TAt K (upd (upd H4 b' (.tup [])) a' (.tup [kV x.hd, .ref b'])) ((valV kvs x.hd).getD (.ref a')) (sub ps x.hd) := by
        unfold sub
        rcases ok4.look x.hd with ⟨h1, h2⟩ | ⟨v', u', h1, h2, h3⟩
        · rw [h1, h2]
          exact t5
        · rw [h1, h2]
          exact h3.mono (TStay.of s5)
      have e5 := s5 _ _ e4
      have sb5 := TStay.of (K := K) s5 _ _ sb
      have d5 := d4.mono (TStay.of s5)
      have s35 := s4.trans s5
      generalize upd (upd H4 b' (.tup [])) a' (.tup [kV x.hd, .ref b']) = H5 at hval e5 sb5 d5 s35
      generalize (valV kvs x.hd).getD (.ref a') = v' at hval
      refine ⟨_, rfl, b, as, rfl, .inr sb5, (by show 2 ≤ sizeLine; decide), fun c hc => ?_⟩
      refine ⟨rs, same_new hc _ _ _ e5, by rw [sizeLine_eq]; omega, sameUpd (s35.trans (same_new hc _)) hD2 _, _, upd_same, ?_⟩
      rw [List.map_append]
      have dr : DAt K (upd H5 c (.tup [v', .int (as.length : Int)])) (.ref c) (rowD (sub ps x.hd, x.args.length)) := rowD_of (r := (sub ps x.hd, x.args.length)) (by rw [← las]; exact SqT.of upd_same) (hval.mono (TStay.new hc _))
      exact (DsAt.append (d5.mono (TStay.new hc _)) (.cons dr .nil)).mono (TStay.lst (same_new hc _ _ _ e5) _)
    · rintro H4 ⟨s4, rs, e4, d4⟩
      have l3 : us3.length = t.pre.length := by rw [ds3.length, List.length_map]
      rw [l3, List.take_length] at d4
      have hrun := run_all ps t
      refine ⟨D2, rs, rowsOf (sub ps) t.pre, t.put ps, rfl, SqL.of e4, d4, hrun.2, ?_, fun r hr2 => ?_, hrun.1, fun H5 u s5 tu => q H5 u (((s2.trans s3).trans s4).trans s5) tu⟩
      · unfold rowsOf
        rw [List.length_map, Tm.pre_length]
        omega
      · unfold rowsOf at hr2
        obtain ⟨x, _, rfl⟩ := List.mem_map.mp hr2
        exact sub_args hz _
end

/-! ### _law_put -/
theorem cat_tup {K : PySem.W.Frag} {H : Hp} {c b : Addr} {us ws : List V} {t : Tm} {ts : List Tm} {Q : VK} (sc : SqT K H c us) (dc : DsAt K H us (t.args.map Tm.dat)) (zc : us.length ≤ 400000) (sb : SqT K H b ws) (db : DsAt K H ws (ts.map Tm.dat)) (zb : ws.length ≤ 400000)
    (q : ∀ (H' : Hp) (x : Addr), Same H H' → TAt K H' (.ref x) (t.appl ts) → Q (.ref x) H') :
    rCatA K (.ref c) (.ref b) H (fun y H2 => [kV t.hd, y].length ≤ sizeLine ∧ ∀ p, H2 p = none → Q (.ref p) (upd H2 p (.tup [kV t.hd, y]))) := by
  have lus : us.length = t.args.length := by rw [dc.length, List.length_map]
  have lws : ws.length = ts.length := by rw [db.length, List.length_map]
  refine ⟨c, b, us, ws, rfl, rfl, sc, sb, ?_, fun e1 => ?_, fun e1 e2 => ?_, fun e1 e2 p hp => ?_⟩
  · rw [sizeLine_eq]
    omega
  · have e3 : t.args = [] := List.eq_nil_of_length_eq_zero (by rw [← lus, e1]; rfl)
    refine ⟨(by show 2 ≤ sizeLine; decide), fun x hx => q _ _ (same_new hx _) ?_⟩
    unfold Tm.appl
    rw [e3, List.nil_append]
    exact TAt.new sb db (by omega) hx
  · have e3 : ts = [] := List.eq_nil_of_length_eq_zero (by rw [← lws, e2]; rfl)
    refine ⟨(by show 2 ≤ sizeLine; decide), fun x hx => q _ _ (same_new hx _) ?_⟩
    unfold Tm.appl
    rw [e3, List.append_nil]
    exact TAt.new sc dc (by omega) hx
  · refine ⟨(by show 2 ≤ sizeLine; decide), fun x hx => q _ _ ((same_new hp _).trans (same_new hx _)) ?_⟩
    unfold Tm.appl
    refine TAt.new (SqT.of upd_same) ?_ (by rw [List.length_append]; omega) hx
    rw [List.map_append]
    exact (DsAt.append dc db).mono (TStay.new hp _)
def spGPut (K : PySem.W.Frag) (n : Nat) : Sp := fun vs H Q _ => ∃ (v : V) (pa : Addr) (t : Tm) (us : List V) (ps : List (Int × Tm)), vs = [v, .ref pa] ∧ TAt K H v t ∧ t.high ≤ n ∧ t.size ≤ 100000 ∧ SqT K H pa us ∧ DsAt K H us (ps.map partD) ∧ (∀ p ∈ ps, p.2.size ≤ 100000) ∧
  ∀ (H' : Hp) (u : V), Same H H' → TAt K H' u (t.put ps) → Q u H'
section
variable {P : Program} {w : World} {K : PySem.W.Frag} {mg : Str → Option Value} {base : Heap}
theorem look_cons (p : Int × Tm) (r : List (Int × Tm)) (k : Key) : look (p :: r) k = if k = .inl p.1 then some p.2 else look r k := by
  cases k with
  | inr x => rfl
  | inl i =>
    show ((p :: r).find? fun q => decide (q.1 = i)).map (·.2) = _
    rw [List.find?_cons]
    by_cases h : p.1 = i
    · rw [decide_eq_true h, if_pos (by rw [h])]
      rfl
    · rw [decide_eq_false h, if_neg (fun z => h (Sum.inl.inj z).symm)]
      rfl
theorem kV_inj {a b : Key} (h : kV a = kV b) : a = b := by
  cases a with
  | inl i =>
    cases b with
    | inl j => cases h; rfl
    | inr y => cases h
  | inr x =>
    cases b with
    | inl j => cases h
    | inr y => cases h; rfl
theorem ok_g_put_step (T : Txt K mg) {n : Nat} (G : FnOk P w K mg base CX0 n T.f_g_put T.fd_g_put ["term", "parts"] (spGPut K n)) : FnOk P w K mg base CX0 (n + 1) T.f_g_put T.fd_g_put ["term", "parts"] (spGPut K (n + 1)) := by
  refine T.d_g_put.F.ok sc_g_put (fun vs H Q E h => ?_) (fun cdv A outer s H vs Q E hr h => ?_)
  · obtain ⟨v, pa, t, us, ps, rfl, _⟩ := h
    rfl
  obtain ⟨v, pa, t, us, ps, rfl, hv, hh, hs, sp, dp, hz, q⟩ := h
  have nd := sc_g_put.nd
  refine ⟨_, pss_cons (ps_set (i := 3) nd rfl (.inl rfl) (pe_callTy call_tuple_of (by rfl) T.z_tuple (by decide +kernel) (pa_cons
      (pe_lc (own := [("argument", 2)]) (g := gName 2) (tt := tYes) rfl nd (pi_tup (pe_ix ix_tup (pv 0) pe_int (fun _ _ => rfl))) (blkOk_by (own := [("argument", 2)]) (N := ["term", "parts", "argument", "arguments", "unknown", "part"]) (sc := defScope s_g_put) (by decide +kernel))
        (fun _ _ _ _ _ => pg_name (i := 2) nd rfl (Or.inl rfl)) (fun _ _ _ _ _ => pts_nil)
        (fun _ _ _ _ _ => pe_call G hr (by rfl) T.d_g_put.m T.d_g_put.F.kp T.d_g_put.b .nil pass0 (pa_cons (pv 2) (pa_cons (pv 1) pa_nil)))) pa_nil)))
    (pss_cons (ps_for PassesOwn.never rfl (pi_tup (pv 1)) (pg_tup rfl (pgs_cons (pg_name (i := 4) nd rfl (.inl rfl)) (pgs_cons (pg_name (i := 5) nd rfl (.inl rfl)) pgs_nil)))
      (pss_one (ps_if (pt_cmpR op_eq (pe_ix ix_tup (pv 0) pe_int (fun _ _ => rfl)) (pv 4) (nomark _))
        (pss_one (ps_ret (pe_tup (pa_cons (pe_ix ix_tup (pv 5) pe_int (fun _ _ => rfl)) (pa_cons (pe_op op_catA (pe_ix ix_tup (pv 5) pe_int (fun _ _ => rfl)) (pv 3)) pa_nil))))) pss_nil)))
    (pss_one (ps_ret (pe_tup (pa_cons (pe_ix ix_tup (pv 0) pe_int (fun _ _ => rfl)) (pa_cons (pv 3) pa_nil)))))), ?_⟩
  cases t with
  | mk k ts =>
    obtain ⟨a, b, as, rfl, sa, sb, ds, zl⟩ := hv.inv
    have ds : DsAt K H as (ts.map Tm.dat) := ds
    have sa : SqT K H a [kV k, .ref b] := sa
    rw [Tm.high] at hh
    rw [Tm.size] at hs
    have las : as.length = ts.length := by rw [ds.length, List.length_map]
    have lsz := Tm.len_sizeL ts
    refine ⟨_, rfl, a, _, _, _, rfl, rfl, sa, atI_nat (j := 1) rfl, b, rfl, ⟨_, sb⟩, fun D hD => lc_tup (K := K) (a := b) (xs := as) (fun i H' => Same H H' ∧ ∃ rs, H' D = some (.lst rs) ∧ DsAt K H' rs ((Tm.putL ps (ts.take i)).map Tm.dat))
      ⟨same_new hD _, [], upd_same, .nil⟩ (fun i H' _ ⟨s2, _⟩ => TStay.of s2 _ _ sb) ?_ ?_⟩
    · rintro i x H2 hx ⟨s2, rs, e2, d2⟩
      obtain ⟨d, hd, dx⟩ := ds.get' hx
      have hi : i < ts.length := by
        have := (List.getElem?_eq_some_iff.mp hx).1
        omega
      rw [List.getElem?_map, List.getElem?_eq_getElem hi] at hd
      have hd : (ts[i]).dat = d := Option.some.inj hd
      subst hd
      have mt := List.getElem_mem hi
      have h1 := Tm.high_mem mt
      have h2 := Tm.size_mem mt
      have lrs : rs.length ≤ i := by
        have := d2.length
        rw [List.length_map, putL_length, List.length_take] at this
        omega
      refine ⟨rfl, ?_⟩
      refine yesT ?_
      refine ⟨_, rfl, _, rfl, x, pa, ts[i], us, ps, rfl, dx.mono (TStay.of s2), by omega, by omega, TStay.of s2 _ _ sp, dp.mono (TStay.of s2), hz, fun H3 u s3 tu => ?_⟩
      refine ⟨rs, s3 _ _ e2, by rw [sizeLine_eq]; omega, sameUpd (s2.trans s3) hD _, _, upd_same, ?_⟩
      rw [List.take_add_one, List.getElem?_eq_getElem hi, Tm.putL_map, List.map_append, List.map_append, ← Tm.putL_map]
      exact (DsAt.append (d2.mono (TStay.of s3)) (.cons tu .nil)).mono (TStay.lst (s3 _ _ e2) _)
    · rintro H2 ⟨s2, rs, e2, d2⟩
      rw [las, List.take_length] at d2
      have lrs : rs.length = ts.length := by rw [d2.length, List.length_map, putL_length]
      refine ⟨D, rs, rfl, .inl ⟨SqL.of e2, fun c hc => ?_⟩⟩
      have s3 : Same H (upd H2 c (.tup rs)) := s2.trans (same_new hc _)
      have sc : SqT K (upd H2 c (.tup rs)) c rs := SqT.of upd_same
      have d3 := d2.mono (TStay.new (K := K) hc (.tup rs))
      generalize upd H2 c (.tup rs) = H3 at s3 sc d3
      have sa3 := TStay.of s3 _ _ sa
      refine ⟨_, rfl, pa, rfl, ⟨_, TStay.of s3 _ _ sp⟩, for_tup (K := K) (a := pa) (xs := us) (fun i σ H' => H' = H3 ∧ look ps k = look (ps.drop i) k ∧ ∃ z4 z5, σ = [some (.ref a), some (.ref pa), none, some (.ref c), z4, z5])
        ⟨rfl, rfl, none, none, rfl⟩ (fun i σ H' _ ⟨e, _⟩ => by rw [e]; exact TStay.of s3 _ _ sp) ?_ ?_⟩
      · rintro i x σ H4 hx ⟨rfl, hlk, z4, z5, rfl⟩
        obtain ⟨d, hd, dx⟩ := dp.get' hx
        have hi : i < ps.length := by
          have h1 := (List.getElem?_eq_some_iff.mp hx).1
          have h2 := dp.length
          rw [List.length_map] at h2
          omega
        rw [List.getElem?_map, List.getElem?_eq_getElem hi] at hd
        have hd : partD ps[i] = d := Option.some.inj hd
        subst hd
        obtain ⟨e, u, rfl, se, tu⟩ := partD_inv (dx.mono (TStay.of s3))
        have hdr : ps.drop i = ps[i] :: ps.drop (i + 1) := List.drop_eq_getElem_cons hi
        rw [hdr, look_cons] at hlk
        have hzi := hz _ (List.getElem_mem hi)
        refine ⟨e, _, rfl, se, rfl, _, _, rfl, _, _, rfl, rfl, ?_⟩
        refine ⟨_, rfl, a, _, _, _, rfl, rfl, sa3, atI_nat (j := 0) rfl, _, rfl, (by cases k <;> rfl), _, rfl, ite2 (fun hk => ?_) (fun hk => ?_)⟩
        · have hk : kV k = .int (ps[i]).1 := of_decide_eq_true hk
          have hk : k = .inl (ps[i]).1 := kV_inj hk
          rw [if_pos hk] at hlk
          generalize ps[i] = p at hlk tu hzi
          obtain ⟨a', b', ws, rfl, sa', sb', dw, zw⟩ := TAt.inv tu
          have lws : ws.length = p.2.args.length := by rw [dw.length, List.length_map]
          have lps : p.2.args.length ≤ 100000 := by
            generalize p.2 = x at hzi
            cases x with
            | mk y ys =>
              rw [Tm.size] at hzi
              have := Tm.len_sizeL ys
              show ys.length ≤ _
              omega
          refine ⟨_, rfl, a', _, _, _, rfl, rfl, sa', atI_nat (j := 0) rfl, _, rfl, a', _, _, _, rfl, rfl, sa', atI_nat (j := 1) rfl, _, rfl, ?_⟩
          refine cat_tup sb' dw (by omega) sc d3 (by omega) (fun H' x s' tx => q H' _ (s3.trans s') ?_)
          rw [Tm.put]
          unfold sub
          rw [hlk]
          exact tx
        · have hk : ¬ kV k = .int (ps[i]).1 := fun z => hk (decide_eq_true z)
          rw [if_neg (fun z => hk (by rw [z]; rfl))] at hlk
          exact ⟨rfl, hlk, _, _, rfl⟩
      · rintro σ H4 ⟨rfl, hlk, z4, z5, rfl⟩
        have lus : us.length = ps.length := by rw [dp.length, List.length_map]
        rw [lus, List.drop_length] at hlk
        have hn : look ps k = none := by
          rw [hlk]
          cases k <;> rfl
        refine ⟨_, rfl, a, _, _, _, rfl, rfl, sa3, atI_nat (j := 0) rfl, _, rfl, (by show 2 ≤ sizeLine; decide), fun x hx => q _ _ (s3.trans (same_new hx _)) ?_⟩
        rw [Tm.put]
        unfold sub
        rw [hn]
        exact TAt.new sc d3 (by omega) hx
theorem ok_g_put (T : Txt K mg) : ∀ n, FnOk P w K mg base CX0 n T.f_g_put T.fd_g_put ["term", "parts"] (spGPut K n)
  | 0 => fn_none fun vs H Q E ⟨_, _, t, _, _, _, _, h, _⟩ => by
    cases t with
    | mk k ts =>
      rw [Tm.high] at h
      omega
  | n + 1 => ok_g_put_step T (ok_g_put T n)
end

/-! ### _law_parts -/
def intsOf (ks : List Key) : List Int := ks.filterMap fun k => match k with | .inl i => some i | .inr _ => none
theorem intsOf_snoc (ks : List Key) (k : Key) : intsOf (ks ++ [k]) = intsOf ks ++ intsOf [k] := by
  unfold intsOf
  rw [List.filterMap_append]
theorem ints_kV (zs : List Int) : zs.map V.int = (zs.map Sum.inl : List Key).map kV := by
  rw [List.map_map]
  rfl
theorem inV_int (z : Int) (zs : List Int) : inV (.int z) (zs.map V.int) = decide (z ∈ zs) := by
  rw [ints_kV]
  have h := inV_kV (.inl z) (zs.map Sum.inl)
  rw [show kV (.inl z) = V.int z from rfl] at h
  rw [h]
  by_cases hz : z ∈ zs
  · rw [decide_eq_true hz]
    exact decide_eq_true (List.mem_map.mpr ⟨z, hz, rfl⟩)
  · rw [decide_eq_false hz]
    refine decide_eq_false fun q => hz ?_
    obtain ⟨y, hy, e⟩ := List.mem_map.mp q
    rw [← Sum.inl.inj e]
    exact hy
theorem rot_list {us : List V} {r : Int} (h0 : 0 ≤ r) (h1 : r ≤ (us.length : Int)) : cutV us (some r) none ++ cutV us none (some r) = us.drop r.toNat ++ us.take r.toNat := by
  obtain ⟨n, rfl⟩ : ∃ n : Nat, r = (n : Int) := ⟨r.toNat, by omega⟩
  have hn : n ≤ us.length := by omega
  unfold cutV
  rw [HT.sIx_none, HT.sIx_none, show HT.sIx us.length 0 (some ((n : Nat) : Int)) = min n us.length from HT.sIx_nat us.length 0 n, show HT.sIx us.length us.length (some ((n : Nat) : Int)) = min n us.length from HT.sIx_nat us.length us.length n, Nat.min_eq_left hn]
  rw [List.take_of_length_le (by rw [List.length_drop]; exact Nat.le_refl _), List.drop_zero, Nat.sub_zero, Int.toNat_natCast]
def spParts (K : PySem.W.Frag) : Sp := fun vs H Q _ => ∃ (st sc pl : Addr) (ns : List Int) (ks : List Key) (d : Int) (v : V) (t : Tm) (most : Int), vs = [.ref st, .ref sc, .ref pl, v, .int most] ∧ GOk K H st sc pl ns ks d ∧ TAt K H v t ∧ t.size ≤ 100 ∧ 1 ≤ most ∧ most ≤ 1000 ∧
  ∀ (H' : Hp) (pa : Addr) (us : List V) (ps : List (Int × Tm)) (d' : Int), Keep st H H' → GOk K H' st sc pl ns ks d' → SqT K H' pa us → DsAt K H' us (ps.map partD) → (ps.map (·.1)).Nodup → ps.length ≤ 101 → (∀ p ∈ ps, (p.2.size : Int) ≤ most ∧ p.2.All HdOk) → Q (.ref pa) H'
section
variable {P : Program} {w : World} {K : PySem.W.Frag} {mg : Str → Option Value} {base : Heap}
theorem ok_g_parts (T : Txt K mg) : FnOk P w K mg base CX0 101 T.f_g_parts T.fd_g_parts ["state", "script", "pool", "term", "most"] (spParts K) := by
  have GP : FnOk P w K mg base CX0 1 T.f_g_pick T.fd_g_pick ["state", "script", "many"] (spPick K) := ok_g_pick T
  have GT : FnOk P w K mg base CX0 96 T.f_g_term T.fd_g_term ["state", "script", "pool", "most"] (spTerm K) := ok_g_term T
  have GH : FnOk P w K mg base CX0 100 T.f_g_heads T.fd_g_heads ["term"] (spHeads K 100) := ok_g_heads T 100
  have GO : FnOk P w K mg base CX0 1 T.f_g_once T.fd_g_once ["heads"] (spOnce K) := ok_g_once T
  refine T.d_g_parts.F.ok sc_g_parts (fun vs H Q E h => ?_) (fun cdv A outer s H vs Q E hr h => ?_)
  · obtain ⟨st, sc, pl, ns, ks, d, v, t, most, rfl, _⟩ := h
    rfl
  obtain ⟨st, sc, pl, ns, ks, d, v, t, most, rfl, g, tt, tz, m0, m1, q⟩ := h
  have nd := sc_g_parts.nd
  have hr1 : Room 1 _ := hr.mono (by decide)
  have hr96 : Room 96 _ := hr.mono (by decide)
  refine ⟨_, pss_cons (ps_setLc (i := 6) (own := [("head", 5)]) (g := gName 5) rfl nd rfl rfl (sw_true rfl rfl rfl (by decide +kernel))
      (pi_tup (pe_call GO hr1 (by rfl) T.d_g_once.m T.d_g_once.F.kp T.d_g_once.b .nil pass0 (pa_cons (pe_call GH hr (by rfl) T.d_g_heads.m T.d_g_heads.F.kp T.d_g_heads.b .nil pass0 (pa_cons (pv 3) pa_nil)) pa_nil)))
      (blkOk_by (own := [("head", 5)]) (N := ["state", "script", "pool", "term", "most", "head", "unknowns", "parts", "unknown", "part", "turn"]) (sc := defScope s_g_parts) (by decide +kernel))
      (fun _ _ _ _ _ => pg_name (i := 5) nd rfl (Or.inl rfl)) (fun _ _ _ _ _ => pts_one (pt_val (pe_callB (isi_at (K := K) rfl) (by rfl) T.z_isinstance (by decide +kernel) (pa_cons (pv 5) (pa_cons (pe_bltn (v := .ty "int") (by rfl) T.z_int (by decide +kernel) rfl) pa_nil)))))
      (fun _ _ _ _ _ => pv 5))
    (pss_cons (ps_set (i := 7) nd rfl (.inl rfl) (pe_lst pa_nil))
    (pss_cons (ps_for PassesOwn.never rfl (pi_list (pe_op op_cat (pv 6) (pe_lst (pa_cons (pe_call GP hr1 (by rfl) T.d_g_pick.m T.d_g_pick.F.kp T.d_g_pick.b .nil pass0 (pa_cons (pv 0) (pa_cons (pv 1) (pa_cons pe_int pa_nil)))) pa_nil)))) (pg_name (i := 8) nd rfl (.inl rfl))
      (pss_one (ps_if (PW.pt (pw_and (pt_cmpR op_notIn_seq (pv 8) (pe_lc (own := [("part", 9)]) (g := gName 9) (tt := tYes) rfl nd (pi_list (pv 7)) (blkOk_by (own := [("part", 9)]) (N := ["state", "script", "pool", "term", "most", "head", "unknowns", "parts", "unknown", "part", "turn"]) (sc := defScope s_g_parts) (by decide +kernel))
          (fun _ _ _ _ _ => pg_name (i := 9) nd rfl (Or.inl rfl)) (fun _ _ _ _ _ => pts_nil) (fun _ _ _ _ _ => pe_ix (ixt_at (K := K) rfl) (pv 9) pe_int (fun _ _ => rfl))) (by rfl))
          (pw_and1 (pt_cmpR op_gt (pe_call GP hr1 (by rfl) T.d_g_pick.m T.d_g_pick.F.kp T.d_g_pick.b .nil pass0 (pa_cons (pv 0) (pa_cons (pv 1) (pa_cons pe_int pa_nil)))) pe_int (nomark _)))))
        (pss_one (ps_expr (pe_bm PySem.F.plainAttrs_list PySem.F.slot_list_append PySem.F.type_list_append mt_append (pv 7) (pa_cons
          (pe_tup (pa_cons (pv 8) (pa_cons (pe_call GT hr96 (by rfl) T.d_g_term.m T.d_g_term.F.kp T.d_g_term.b .nil pass0 (pa_cons (pv 0) (pa_cons (pv 1) (pa_cons (pv 2) (pa_cons (pv 4) pa_nil))))) pa_nil))) pa_nil)))) pss_nil)))
    (pss_cons (ps_set (i := 10) nd rfl (.inl rfl) (pe_call GP hr1 (by rfl) T.d_g_pick.m T.d_g_pick.F.kp T.d_g_pick.b .nil pass0 (pa_cons (pv 0) (pa_cons (pv 1) (pa_cons (pe_op op_add (pe_callB call_len_seq (by rfl) T.z_len PySem.boot_len (pa_cons (pv 7) pa_nil)) pe_int) pa_nil)))))
    (pss_one (ps_ret (pe_callTy call_tuple_of (by rfl) T.z_tuple (by decide +kernel) (pa_cons (pe_op op_cat (pe_slice sl_list (pv 7) (po_some (pv 10)) po_none) (pe_slice sl_list (pv 7) po_none (po_some (pv 10)))) pa_nil))))))), ?_⟩
  -- unknowns = [head for head in _law_once(_law_heads(term)) if isinstance(head, int)]
  refine ⟨_, rfl, v, t, rfl, tt, Nat.le_trans (Tm.high_size t) tz, by omega, fun H1 p1 s1 hp1 e1 => ?_⟩
  refine ⟨p1, _, rfl, SqL.of e1, by rw [Tm.heads_length]; omega, fun H2 p2 s2 e2 => ?_⟩
  have hdl := dedup_length t.heads
  rw [Tm.heads_length] at hdl
  generalize dedup t.heads = hs at e2 hdl
  refine ⟨p2, rfl, ⟨_, SqT.of e2⟩, fun D hD => lc_tup (K := K) (a := p2) (xs := hs.map kV) (fun i H' => Same H2 H' ∧ H' D = some (.lst ((intsOf (hs.take i)).map V.int)))
    ⟨same_new hD _, upd_same⟩ (fun i H' _ ⟨s3, _⟩ => TStay.of s3 _ _ (SqT.of e2)) ?_ ?_⟩
  · rintro i x H3 hx ⟨s3, e3⟩
    have hi : i < hs.length := by
      have h1 := (List.getElem?_eq_some_iff.mp hx).1
      rw [List.length_map] at h1
      exact h1
    rw [List.getElem?_map, List.getElem?_eq_getElem hi] at hx
    have hx : kV hs[i] = x := Option.some.inj hx
    subst hx
    have stp : intsOf (hs.take (i + 1)) = intsOf (hs.take i) ++ intsOf [hs[i]] := by
      rw [List.take_add_one, List.getElem?_eq_getElem hi]
      exact intsOf_snoc _ _
    rw [stp]
    have hl : (intsOf (hs.take i)).length ≤ i := by
      unfold intsOf
      have := List.length_filterMap_le (fun k : Key => match k with | .inl i => some i | .inr _ => none) (hs.take i)
      rw [List.length_take] at this
      omega
    generalize hs[i] = kk
    refine ⟨rfl, _, rfl, ?_⟩
    cases kk with
    | inl z =>
      refine ⟨_, _, _, _, _, rfl, .ty _, .base (.int _), kit_ty (r := true) (by decide +kernel), _, rfl, ?_⟩
      refine iteT ⟨_, rfl, _, e3, by rw [List.length_map, sizeLine_eq]; omega, sameUpd s3 hD _, ?_⟩
      rw [upd_same, List.map_append]
      rfl
    | inr z =>
      refine ⟨_, _, _, _, _, rfl, .ty _, .base (.str _), kit_ty (r := false) (by decide +kernel), _, rfl, ?_⟩
      refine iteF ⟨s3, ?_⟩
      rw [e3]
      rw [show intsOf [(Sum.inr z : Key)] = [] from rfl, List.append_nil]
  · rintro H3 ⟨s3, e3⟩
    rw [List.length_map, List.take_length] at e3
    have hl : (intsOf hs).length ≤ 100 := by
      unfold intsOf
      have := List.length_filterMap_le (fun k : Key => match k with | .inl i => some i | .inr _ => none) hs
      omega
    generalize intsOf hs = zs at e3 hl
    have s03 := (s1.trans s2).trans s3
    have g3 := g.go (Keep.of s03) (g.s.state.same s03)
    have tt3 := tt.mono (TStay.of (K := K) s03)
    -- parts = []
    refine ⟨Nat.zero_le _, fun lp hlp => ?_⟩
    have g4 := g3.new hlp (.lst [])
    have k04 := (Keep.of s03).trans (Keep.new (st := st) hlp (.lst []))
    have lp0 : H lp = none := (Keep.of s03).free (g3.s.ne hlp) hlp
    have lpst := g3.s.ne hlp
    have eD : (upd H3 lp (.lst [])) D = some (.lst (zs.map V.int)) := by rw [upd_ne (ne_of_none e3 hlp)]; exact e3
    -- unknowns + [_law_pick(..)]
    refine ⟨_, rfl, _, rfl, _, rfl, st, sc, ns, d, 10000, rfl, g4.s, g.n63, by decide, by decide, fun H5 r k5 S5 _ _ => ⟨(by show 1 ≤ sizeLine; decide), fun l1 hl1 => ?_⟩⟩
    have g5 := g4.of k5 S5
    have Dst : D ≠ st := g.s.ne (s1.trans s2 |>.free hD)
    have e5D := k5 _ _ Dst eD
    refine ⟨D, l1, _, _, rfl, rfl, (same_new hl1 _ _ _ e5D), upd_same, by rw [List.length_map]; show zs.length + 1 ≤ sizeLine; rw [sizeLine_eq]; omega, fun l2 hl2 => ?_⟩
    have ezs : zs.map V.int ++ [V.int r] = (zs ++ [r]).map V.int := by rw [List.map_append]; rfl
    rw [ezs]
    have hl2' : (zs ++ [r]).length ≤ 101 := by rw [List.length_append]; exact Nat.succ_le_succ hl
    generalize zs ++ [r] = ws at hl2'
    have k07 := ((k04.trans k5).trans (Keep.new hl1 (.lst [V.int r]))).trans (Keep.new hl2 (.lst (ws.map V.int)))
    have g7 := (g5.new hl1 (.lst [V.int r])).new hl2 (.lst (ws.map V.int))
    have l2st := (g5.new hl1 (.lst [V.int r])).s.ne hl2
    have e7p : (upd (upd H5 l1 (.lst [V.int r])) l2 (.lst (ws.map V.int))) lp = some (.lst []) := (same_new hl1 _ |>.trans (same_new hl2 _)) _ _ (k5 _ _ lpst upd_same)
    have l2lp : l2 ≠ lp := (ne_of_none (same_new hl1 _ _ _ (k5 _ _ lpst upd_same)) hl2).symm
    have e7l : (upd (upd H5 l1 (.lst [V.int r])) l2 (.lst (ws.map V.int))) l2 = some (.lst (ws.map V.int)) := upd_same
    generalize upd (upd H5 l1 (.lst [V.int r])) l2 (.lst (ws.map V.int)) = H7 at k07 g7 e7p e7l
    refine ⟨l2, rfl, ⟨_, SqL.of e7l⟩, for_list (K := K) (a := l2) (xs := ws.map V.int) (fun i σ H' => ∃ (us : List V) (ps : List (Int × Tm)) (d' : Int) (z8 z9 z10 : Option V), σ = [some (.ref st), some (.ref sc), some (.ref pl), some v, some (.int most), none, some (.ref D), some (.ref lp), z8, z9, z10] ∧
        Keep st H H' ∧ StAt H' st d' ∧ H' l2 = some (.lst (ws.map V.int)) ∧ H' lp = some (.lst us) ∧ DsAt K H' us (ps.map partD) ∧ (ps.map (·.1)).Nodup ∧ ps.length ≤ i ∧ ∀ p ∈ ps, (p.2.size : Int) ≤ most ∧ p.2.All HdOk)
      ⟨[], [], d, none, none, none, rfl, k07, g7.s.state, e7l, e7p, .nil, List.nodup_nil, Nat.le_refl _, fun _ h => absurd h List.not_mem_nil⟩
      (fun i σ H' _ ⟨_, _, _, _, _, _, _, _, _, e, _⟩ => SqL.of e) ?_ ?_⟩
    · rintro i x σ H8 hx ⟨us, ps, d', z8, z9, z10, rfl, k8, s8, e8l, e8p, ds8, nd8, len8, all8⟩
      have hi : i < ws.length := by
        have h1 := (List.getElem?_eq_some_iff.mp hx).1
        rw [List.length_map] at h1
        exact h1
      rw [List.getElem?_map, List.getElem?_eq_getElem hi] at hx
      have hx : V.int ws[i] = x := Option.some.inj hx
      subst hx
      generalize ws[i] = z
      have lus : us.length = ps.length := by rw [ds8.length, List.length_map]
      -- unknown not in [part[0] for part in parts]
      refine ⟨_, rfl, _, rfl, lp, rfl, ⟨_, SqL.of e8p⟩, fun D2 hD2 => lc_list (K := K) (a := lp) (xs := us) (fun j H' => Same H8 H' ∧ H' D2 = some (.lst (((ps.take j).map (·.1)).map V.int)))
        ⟨same_new hD2 _, upd_same⟩ (fun j H' _ ⟨s9, _⟩ => s9.seq (SqL.of e8p)) ?_ ?_⟩
      · rintro j y H9 hy ⟨s9, e9⟩
        obtain ⟨d9, hd9, dy⟩ := ds8.get' hy
        have hj : j < ps.length := by
          have h1 := (List.getElem?_eq_some_iff.mp hy).1
          omega
        rw [List.getElem?_map, List.getElem?_eq_getElem hj] at hd9
        have hd9 : partD ps[j] = d9 := Option.some.inj hd9
        subst hd9
        obtain ⟨a, u, rfl, sa, tu⟩ := partD_inv (dy.mono (TStay.of s9))
        refine ⟨rfl, ?_⟩
        refine yesT ?_
        refine ⟨_, rfl, a, _, _, _, rfl, rfl, sa, atI_nat (j := 0) rfl, _, e9, ?_, sameUpd s9 hD2 _, ?_⟩
        · rw [List.length_map, List.length_map, List.length_take, sizeLine_eq]
          omega
        · rw [upd_same, List.take_add_one, List.getElem?_eq_getElem hj, List.map_append, List.map_append]
          rfl
      · rintro H9 ⟨s9, e9⟩
        rw [lus, List.take_length] at e9
        have k9 := k8.trans (Keep.of s9)
        have g9 := g.go k9 (s8.same s9)
        have e9l := s9 _ _ e8l
        have e9p := s9 _ _ e8p
        have ds9 := ds8.mono (TStay.of (K := K) s9)
        have stay : ∀ (H' : Hp) (d'' : Int), Keep st H9 H' → StAt H' st d'' → ∃ (us : List V) (ps : List (Int × Tm)) (d' : Int) (z8 z9' z10' : Option V), [some (.ref st), some (.ref sc), some (.ref pl), some v, some (.int most), none, some (.ref D), some (.ref lp), some (.int z), z9, z10] = [some (.ref st), some (.ref sc), some (.ref pl), some v, some (.int most), none, some (.ref D), some (.ref lp), z8, z9', z10'] ∧
            Keep st H H' ∧ StAt H' st d' ∧ H' l2 = some (.lst (ws.map V.int)) ∧ H' lp = some (.lst us) ∧ DsAt K H' us (ps.map partD) ∧ (ps.map (·.1)).Nodup ∧ ps.length ≤ i + 1 ∧ ∀ p ∈ ps, (p.2.size : Int) ≤ most ∧ p.2.All HdOk := fun H' d'' k s =>
          ⟨us, ps, d'', _, _, _, rfl, k9.trans k, s, k _ _ l2st e9l, k _ _ lpst e9p, ds9.mono (g9.s.ts k), nd8, Nat.le_succ_of_le len8, all8⟩
        refine ⟨D2, _, rfl, .inl (SqL.of e9), rfl, ?_, _, rfl, ?_⟩
        · rw [ints_kV]
          exact flat_keys _
        rw [inV_int]
        by_cases hz : z ∈ ps.map (·.1)
        · rw [decide_eq_true hz]
          exact iteF (iteF (stay H9 d' (Keep.refl _ _) (s8.same s9)))
        · rw [decide_eq_false hz]
          refine iteT ⟨_, rfl, _, rfl, st, sc, ns, d', 3, rfl, g9.s, g.n63, by decide, by decide, fun H10 r2 k10 S10 _ _ => ⟨_, _, rfl, rfl, _, rfl, ite2 (fun _ => ?_) (fun _ => ?_)⟩⟩
          · have g10 := g9.of k10 S10
            refine ⟨_, rfl, .inl ⟨rfl, _, SqL.of (k10 _ _ lpst e9p)⟩, _, rfl, _, rfl, _, rfl, _, rfl, _, rfl, st, sc, pl, ns, ks, d', most, rfl, g10, m0, m1, fun H11 u t2 d11 k11 g11 tu ta tz2 => ⟨(by show 2 ≤ sizeLine; decide), fun c hc => ?_⟩⟩
            have k911 := k10.trans k11
            have e11 : (upd H11 c (.tup [.int z, u])) lp = some (.lst us) := same_new hc _ _ _ (k911 _ _ lpst e9p)
            have e11l : (upd H11 c (.tup [.int z, u])) l2 = some (.lst (ws.map V.int)) := same_new hc _ _ _ (k911 _ _ l2st e9l)
            have dp : DAt K (upd H11 c (.tup [.int z, u])) (.ref c) (partD (z, t2)) := partD_of (p := (z, t2)) (SqT.of upd_same) (tu.mono (TStay.new hc _))
            have tl : TStay K (upd H11 c (.tup [.int z, u])) (upd (upd H11 c (.tup [.int z, u])) lp (.lst (us ++ [.ref c]))) := TStay.lst e11 _
            refine ⟨lp, us, _, rfl, rfl, e11, by rw [lus, sizeLine_eq]; omega, us ++ [.ref c], ps ++ [(z, t2)], d11, _, _, _, rfl, ((k9.trans k911).trans (Keep.new hc _)).upd lp0 _, (g11.new hc _).s.state.upd lpst _, ?_, upd_same, ?_, ?_, ?_, ?_⟩
            · rw [upd_ne l2lp]
              exact e11l
            · rw [List.map_append]
              exact (DsAt.append ((ds9.mono (g9.s.ts k911)).mono (TStay.new hc _)) (.cons dp .nil)).mono tl
            · rw [List.map_append]
              exact List.nodup_append.mpr ⟨nd8, by simp, fun a ha b hb => by
                rw [List.mem_singleton.mp hb]
                exact fun e => hz (by
                  have e2 : a = z := e
                  rw [← e2]
                  exact ha)⟩
            · rw [List.length_append]
              exact Nat.succ_le_succ len8
            · intro p hp
              rcases List.mem_append.mp hp with hp | hp
              · exact all8 p hp
              · rw [List.mem_singleton.mp hp]
                exact ⟨tz2, ta⟩
          · exact stay H10 d' k10 S10.state
    · rintro σ H8 ⟨us, ps, d', z8, z9, z10, rfl, k8, s8, e8l, e8p, ds8, nd8, len8, all8⟩
      rw [List.length_map] at len8
      have lus : us.length = ps.length := by rw [ds8.length, List.length_map]
      have g8 := g.go k8 s8
      refine ⟨_, rfl, _, rfl, _, rfl, lp, us, rfl, .inl (SqL.of e8p), _, _, rfl, rfl, st, sc, ns, d', _, rfl, g8.s, g.n63, by omega, by omega, fun H9 r9 k9 S9 r0 r1 => ?_⟩
      have e9p := k9 _ _ lpst e8p
      refine ⟨_, rfl, _, rfl, r9, rfl, lp, us, rfl, SqL.of e9p, fun a ha => ⟨_, rfl, _, rfl, r9, rfl, lp, us, rfl, SqL.of (same_new ha _ _ _ e9p), fun b hb => ?_⟩⟩
      refine ⟨a, b, _, _, rfl, rfl, (same_new hb _ _ _ upd_same), upd_same, ?_, fun c hc => ?_⟩
      · have h1 := cutV_length us (some r9) none
        have h2 := cutV_length us none (some r9)
        rw [sizeLine_eq]
        omega
      · rw [rot_list r0 (by omega)]
        refine ⟨c, _, rfl, .inl ⟨SqL.of upd_same, fun f hf => ?_⟩⟩
        have sF : Same H9 (upd (upd (upd (upd H9 a (.lst (cutV us (some r9) none))) b (.lst (cutV us none (some r9)))) c (.lst (us.drop r9.toNat ++ us.take r9.toNat))) f (.tup (us.drop r9.toNat ++ us.take r9.toNat))) := (((same_new ha _).trans (same_new hb _)).trans (same_new hc _)).trans (same_new hf _)
        have kF := k9.trans (Keep.of sF)
        have g9 := g8.of k9 S9
        refine q _ f _ (ps.drop r9.toNat ++ ps.take r9.toNat) d' (k8.trans kF) (g9.go (Keep.of sF) (S9.state.same sF)) (SqT.of upd_same) ?_ ?_ ?_ ?_
        · rw [List.map_append, List.map_drop, List.map_take]
          exact DsAt.append ((ds8.mono (g8.s.ts kF)).drop _) ((ds8.mono (g8.s.ts kF)).take _)
        · have hp : (ps.drop r9.toNat ++ ps.take r9.toNat).Perm ps := by
            have h1 : (ps.take r9.toNat ++ ps.drop r9.toNat).Perm (ps.drop r9.toNat ++ ps.take r9.toNat) := List.perm_append_comm
            rw [List.take_append_drop] at h1
            exact h1.symm
          exact ((hp.map _).nodup_iff).mpr nd8
        · rw [List.length_append, List.length_drop, List.length_take]
          omega
        · intro p hp
          rcases List.mem_append.mp hp with hp | hp
          · exact all8 p (List.mem_of_mem_drop hp)
          · exact all8 p (List.mem_of_mem_take hp)
end

/-! ### the law -/
def spLaw (K : PySem.W.Frag) : Sp := fun vs H Q _ => ∃ (a : Addr) (ns : List Int), vs = [.ref a] ∧ SqL K H a (ns.map V.int) ∧ ns.length ≤ 63 ∧ ∀ H', Q (.bl true) H'
/-! data as the model's own -/
mutual
def Dt.py : Dt → PyData
  | .non => .none
  | .key (.inl i) => .int i
  | .key (.inr x) => .str x
  | .tup l => .tuple (Dt.pyL l)
def Dt.pyL : List Dt → List PyData
  | [] => []
  | d :: r => d.py :: Dt.pyL r
end
mutual
theorem DAt.dp {K : PySem.W.Frag} {H : Hp} : ∀ {v : V} {d : Dt}, DAt K H v d → Dp K H v d.py
  | _, _, .non => .non
  | _, .key (.inl i), .key => .int i
  | _, .key (.inr x), .key => .str x
  | _, _, .tup h t _ => by
    rw [Dt.py]
    exact .tup h (DsAt.dp t)
theorem DsAt.dp {K : PySem.W.Frag} {H : Hp} : ∀ {vs : List V} {ds : List Dt}, DsAt K H vs ds → DpAll K H vs (Dt.pyL ds)
  | _, _, .nil => by
    rw [Dt.pyL]
    exact .nil
  | _, _, .cons a t => by
    rw [Dt.pyL]
    exact .cons (DAt.dp a) (DsAt.dp t)
end
theorem nm_ok {b : Bool} {x : Str} (h : IsNm b x) : PyData.strOk x = true := by
  obtain ⟨c, cs, e, h1, h2, _⟩ := h
  unfold PyData.strOk
  rw [← Array.all_toList, e, List.all_cons, Bool.and_eq_true]
  constructor
  · refine decide_eq_true ?_
    cases b with
    | true =>
      have h1 : 65 ≤ c ∧ c ≤ 90 := h1
      omega
    | false =>
      have h1 : 97 ≤ c ∧ c ≤ 122 := h1
      omega
  · rw [List.all_eq_true]
    intro d hd
    refine decide_eq_true ?_
    rcases h2 d hd with h | h | h
    · have h : 65 ≤ d ∧ d ≤ 90 := h
      omega
    · have h : 97 ≤ d ∧ d ≤ 122 := h
      omega
    · omega
theorem key_can {k : Key} (h : HdOk k) : (Dt.key k).py.canLay0 = true := by
  cases k with
  | inl i =>
    rw [Dt.py, PyData.canLay0]
  | inr x =>
    rw [Dt.py, PyData.canLay0]
    obtain ⟨b, h⟩ := h
    exact nm_ok h
theorem int_can (i : Int) : (Dt.key (.inl i)).py.canLay0 = true := by rw [Dt.py, PyData.canLay0]
mutual
theorem Tm.can : ∀ t : Tm, t.All HdOk → t.dat.py.canLay0 = true
  | .mk h ts, ha => by
    have hh : HdOk h := ha h (by rw [Tm.heads]; exact List.mem_cons_self ..)
    have ht := Tm.canL ts (fun k hk => ha k (by rw [Tm.heads]; exact List.mem_cons_of_mem _ hk))
    rw [Tm.dat, Dt.py, Dt.pyL, Dt.pyL, Dt.pyL, PyData.canLay0, PyData.canLayAll0, PyData.canLayAll0, PyData.canLayAll0, key_can hh]
    rw [show (Dt.tup (Tm.datL ts)).py = .tuple (Dt.pyL (Tm.datL ts)) by rw [Dt.py], PyData.canLay0, ht]
    rfl
theorem Tm.canL : ∀ ts : List Tm, (∀ k ∈ Tm.headsL ts, HdOk k) → PyData.canLayAll0 (Dt.pyL (Tm.datL ts)) = true
  | [], _ => by rw [Tm.datL, Dt.pyL, PyData.canLayAll0]
  | t :: r, h => by
    have h1 := Tm.can t (fun k hk => h k (by rw [Tm.headsL]; exact List.mem_append_left _ hk))
    have h2 := Tm.canL r (fun k hk => h k (by rw [Tm.headsL]; exact List.mem_append_right _ hk))
    rw [Tm.datL, Dt.pyL, PyData.canLayAll0, h1, h2]
    rfl
end
mutual
theorem Dt.py_depth : ∀ d : Dt, d.py.depth ≤ d.deep
  | .non => by
    rw [Dt.py, PyData.depth]
    exact Nat.zero_le _
  | .key (.inl i) => by
    rw [Dt.py, PyData.depth]
    exact Nat.zero_le _
  | .key (.inr x) => by
    rw [Dt.py, PyData.depth]
    exact Nat.zero_le _
  | .tup l => by
    rw [Dt.py, PyData.depth, Dt.deep]
    exact Nat.succ_le_succ (Dt.pyL_depth l)
theorem Dt.pyL_depth : ∀ l : List Dt, PyData.depthAll (Dt.pyL l) ≤ Dt.deepL l
  | [] => by
    rw [Dt.pyL, PyData.depthAll]
    exact Nat.zero_le _
  | d :: r => by
    rw [Dt.pyL, PyData.depthAll, Dt.deepL]
    have h1 := Dt.py_depth d
    have h2 := Dt.pyL_depth r
    omega
end
theorem parts_can : ∀ ps : List (Int × Tm), (∀ p ∈ ps, p.2.All HdOk) → PyData.canLayAll0 (Dt.pyL (ps.map partD)) = true
  | [], _ => by rw [List.map_nil, Dt.pyL, PyData.canLayAll0]
  | p :: r, h => by
    have h1 := Tm.can p.2 (h p (List.mem_cons_self ..))
    have h2 := parts_can r (fun q hq => h q (List.mem_cons_of_mem _ hq))
    rw [List.map_cons, Dt.pyL, PyData.canLayAll0, h2]
    unfold partD
    rw [Dt.py, Dt.pyL, Dt.pyL, Dt.pyL, PyData.canLay0, PyData.canLayAll0, PyData.canLayAll0, PyData.canLayAll0, int_can, h1]
    rfl
theorem parts_deep {m : Nat} : ∀ ps : List (Int × Tm), (∀ p ∈ ps, p.2.size ≤ m) → Dt.deepL (ps.map partD) ≤ 2 * m + 1
  | [], _ => by
    rw [List.map_nil, Dt.deepL]
    exact Nat.zero_le _
  | p :: r, h => by
    have h1 := Tm.dat_deep p.2
    have h3 := h p (List.mem_cons_self ..)
    have h2 := parts_deep r (fun q hq => h q (List.mem_cons_of_mem _ hq))
    have h4 : (partD p).deep ≤ 2 * m + 1 := by
      unfold partD
      rw [Dt.deep, Dt.deepL, Dt.deepL, Dt.deepL, Dt.deep]
      omega
    rw [List.map_cons, Dt.deepL]
    omega
theorem parts_shaped {ps : List (Int × Tm)} (h : ∀ p ∈ ps, p.2.size ≤ 12 ∧ p.2.All HdOk) : SeqAt.shaped (Dt.tup (ps.map partD)).py = true := by
  unfold SeqAt.shaped
  rw [Bool.and_eq_true]
  constructor
  · rw [Dt.py, PyData.canLay0]
    exact parts_can ps fun p hp => (h p hp).2
  · refine decide_eq_true ?_
    have h1 := Dt.py_depth (Dt.tup (ps.map partD))
    rw [Dt.deep] at h1
    have h2 := parts_deep (m := 12) ps fun p hp => (h p hp).1
    omega
section
variable {P : Program} {w : World} {K : PySem.W.Frag} {mg : Str → Option Value} {base : Heap}
theorem ok_law (T : Txt K mg) : FnOk P w K mg base CX0 226 T.f_law T.fd_law ["script"] (spLaw K) := by
  have GP : FnOk P w K mg base CX0 1 T.f_g_pick T.fd_g_pick ["state", "script", "many"] (spPick K) := ok_g_pick T
  have GPool : FnOk P w K mg base CX0 3 T.f_g_pool T.fd_g_pool ["state", "script"] (spPool K) := ok_g_pool T
  have GT : FnOk P w K mg base CX0 96 T.f_g_term T.fd_g_term ["state", "script", "pool", "most"] (spTerm K) := ok_g_term T
  have GS : FnOk P w K mg base CX0 225 T.f_g_same T.fd_g_same ["actual", "due"] (spSame K 225) := ok_g_same T 225
  have GX : FnOk P w K mg base CX0 101 T.f_g_parts T.fd_g_parts ["state", "script", "pool", "term", "most"] (spParts K) := ok_g_parts T
  have GG : FnOk P w K mg base CX0 100 T.f_g_put T.fd_g_put ["term", "parts"] (spGPut K 100) := ok_g_put T 100
  have GU : FnOk P w K mg base CX0 3 T.f_put T.fd_put ["term", "parts"] (spPut K) := ok_put T
  have GA : FnOk P w K mg base CX0 1 T.f_applied T.fd_applied ["term", "arguments"] (spApplied K) := ok_applied T
  refine T.d_law.F.ok sc_law (fun vs H Q E h => ?_) (fun cdv A outer s H vs Q E hr h => ?_)
  · obtain ⟨a, ns, rfl, _⟩ := h
    rfl
  obtain ⟨sc, ns, rfl, hS, h63, q⟩ := h
  have nd := sc_law.nd
  have hr1 : Room 1 _ := hr.mono (by decide)
  have hr3 : Room 3 _ := hr.mono (by decide)
  have hr96 : Room 96 _ := hr.mono (by decide)
  have hr100 : Room 100 _ := hr.mono (by decide)
  have hr101 : Room 101 _ := hr.mono (by decide)
  refine ⟨_, pss_cons (ps_set (i := 1) nd rfl (.inr rfl) (pe_lst (pa_cons pe_int (pa_cons pe_int (pa_cons pe_int (pa_cons pe_int pa_nil))))))
    (pss_cons (ps_set (i := 2) nd rfl (.inr rfl) (pe_call GPool hr3 (by rfl) T.d_g_pool.m T.d_g_pool.F.kp T.d_g_pool.b .nil pass0 (pa_cons (pv 1) (pa_cons (pv 0) pa_nil))))
    (pss_cons (ps_for PassesOwn.never rfl (pi_range1 (by rfl) T.z_range (pa_cons pe_int pa_nil)) (pg_name (i := 3) nd rfl (.inl rfl))
      (pss_cons (ps_set (i := 4) nd rfl (.inl rfl) (pe_call GT hr96 (by rfl) T.d_g_term.m T.d_g_term.F.kp T.d_g_term.b .nil pass0 (pa_cons (pv 1) (pa_cons (pv 0) (pa_cons (pv 2) (pa_cons pe_int pa_nil))))))
      (pss_cons (ps_set (i := 5) nd rfl (.inl rfl) (pe_call GX hr101 (by rfl) T.d_g_parts.m T.d_g_parts.F.kp T.d_g_parts.b .nil pass0 (pa_cons (pv 1) (pa_cons (pv 0) (pa_cons (pv 2) (pa_cons (pv 4) (pa_cons pe_int pa_nil)))))))
      (pss_cons (ps_set (i := 6) nd rfl (.inl rfl) (pe_callTy call_tuple_of (by rfl) T.z_tuple (by decide +kernel) (pa_cons (pe_callTy call_list_of (by rfl) T.z_list (by decide +kernel) (pa_cons (pv 5) pa_nil)) pa_nil)))
      (pss_cons (ps_if (PW.pt (pw_or (pt_not (pt_val (pe_call GS hr (by rfl) T.d_g_same.m T.d_g_same.F.kp T.d_g_same.b .nil pass0 (pa_cons
            (pe_call GU hr3 (by rfl) T.d_put.m T.d_put.F.kp T.d_put.b .nil pass0 (pa_cons (pv 4) (pa_cons (pv 5) pa_nil))) (pa_cons
            (pe_call GG hr100 (by rfl) T.d_g_put.m T.d_g_put.F.kp T.d_g_put.b .nil pass0 (pa_cons (pv 4) (pa_cons (pv 5) pa_nil))) pa_nil)))))
          (pw_or1 (pt_cmpR (op_neD hr.units) (pv 5) (pv 6) (nomark _)))))
        (pss_one (ps_ret pe_bl)) pss_nil)
      (pss_cons (ps_if (pt_not (pt_val (pe_call GS hr (by rfl) T.d_g_same.m T.d_g_same.F.kp T.d_g_same.b .nil pass0 (pa_cons
            (pe_call GU hr3 (by rfl) T.d_put.m T.d_put.F.kp T.d_put.b .nil pass0 (pa_cons (pv 4) (pa_cons (pe_tup pa_nil) pa_nil))) (pa_cons (pv 4) pa_nil)))))
        (pss_one (ps_ret pe_bl)) pss_nil)
      (pss_cons (ps_set (i := 8) nd rfl (.inl rfl) (pe_callTy call_tuple_of (by rfl) T.z_tuple (by decide +kernel) (pa_cons
        (pe_lc (own := [("j", 7)]) (g := gName 7) (tt := tYes) rfl nd (pi_range1 (by rfl) T.z_range (pa_cons (pe_call GP hr1 (by rfl) T.d_g_pick.m T.d_g_pick.F.kp T.d_g_pick.b .nil pass0 (pa_cons (pv 1) (pa_cons (pv 0) (pa_cons pe_int pa_nil)))) pa_nil))
          (blkOk_by (own := [("j", 7)]) (N := ["script", "state", "pool", "k", "term", "parts", "kept", "j", "more"]) (sc := defScope s_law) (by decide +kernel))
          (fun _ _ _ _ _ => pg_name (i := 7) nd rfl (Or.inl rfl)) (fun _ _ _ _ _ => pts_nil)
          (fun _ _ _ _ _ => pe_call GT hr96 (by rfl) T.d_g_term.m T.d_g_term.F.kp T.d_g_term.b .nil pass0 (pa_cons (pv 1) (pa_cons (pv 0) (pa_cons (pv 2) (pa_cons pe_int pa_nil)))))) pa_nil)))
      (pss_one (ps_if (pt_not (pt_val (pe_call GS hr (by rfl) T.d_g_same.m T.d_g_same.F.kp T.d_g_same.b .nil pass0 (pa_cons
            (pe_call GA hr1 (by rfl) T.d_applied.m T.d_applied.F.kp T.d_applied.b .nil pass0 (pa_cons (pv 4) (pa_cons (pv 8) pa_nil))) (pa_cons
            (pe_tup (pa_cons (pe_ix ix_tup (pv 4) pe_int (fun _ _ => rfl)) (pa_cons (pe_op op_catA (pe_ix ix_tup (pv 4) pe_int (fun _ _ => rfl)) (pv 8)) pa_nil))) pa_nil)))))
        (pss_one (ps_ret pe_bl)) pss_nil)))))))))
    (pss_one (ps_ret pe_bl)))), ?_⟩
  refine ⟨(by show 4 ≤ sizeLine; decide), fun st hst => ?_⟩
  have S0 : SOk K (upd H st (.lst [.int 0, .int 0, .int 1, .int 0])) st sc ns 0 := ⟨⟨0, 0, 1, upd_same, by decide, by decide, by decide, by decide⟩, Scr.new hS hst _⟩
  refine ⟨_, rfl, _, rfl, st, sc, ns, 0, rfl, S0, h63, fun H1 pl ks k1 g1 _ => ?_⟩
  refine ⟨2, rfl, by decide, by decide, for_range (lo := 0) (n := 2) (fun i σ H' => ∃ (d : Int) (z3 z4 z5 z6 z7 z8 : Option V), σ = [some (.ref sc), some (.ref st), some (.ref pl), z3, z4, z5, z6, z7, z8] ∧ GOk K H' st sc pl ns ks d)
    ⟨0, none, none, none, none, none, none, rfl, g1⟩ ?_ ?_⟩
  · rintro i σ H2 hi ⟨d, z3, z4, z5, z6, z7, z8, rfl, g2⟩
    -- term = ..
    refine ⟨_, rfl, _, rfl, _, rfl, st, sc, pl, ns, ks, d, 100, rfl, g2, by decide, by decide, fun H3 v t d3 k3 g3 tt ta tz => ?_⟩
    have tz : t.size ≤ 100 := by omega
    have th := Nat.le_trans (Tm.high_size t) tz
    -- parts = ..
    refine ⟨_, rfl, _, rfl, _, rfl, _, rfl, st, sc, pl, ns, ks, d3, v, t, 12, rfl, g3, tt, tz, by decide, by decide, fun H4 pa us ps d4 k4 g4 sp dp hnd hlen hall => ?_⟩
    have tt4 := tt.mono (g3.s.ts k4)
    have hps : ∀ p ∈ ps, p.2.size ≤ 12 ∧ p.2.All HdOk := fun p hp => ⟨by have := (hall p hp).1; omega, (hall p hp).2⟩
    have hps2 : ∀ p ∈ ps, p.2.size ≤ 100000 := fun p hp => Nat.le_trans (hps p hp).1 (by decide)
    have hps3 : ∀ p ∈ ps, p.2.high ≤ 12 := fun p hp => Nat.le_trans (Tm.high_size _) (hps p hp).1
    have hph := Tm.put_high hps3 (by decide) t
    have hpd := Tm.dat_high (t.put ps)
    -- kept = tuple(list(parts))
    refine ⟨_, rfl, pa, us, rfl, .inr sp, fun l hl => ⟨l, us, rfl, .inl ⟨SqL.of upd_same, fun kp hkp => ?_⟩⟩⟩
    have s5 : Same H4 (upd (upd H4 l (.lst us)) kp (.tup us)) := (same_new hl _).trans (same_new hkp _)
    have ekp : SqT K (upd (upd H4 l (.lst us)) kp (.tup us)) kp us := SqT.of upd_same
    have g5 := g4.go (Keep.of s5) (g4.s.state.same s5)
    have tt5 := tt4.mono (TStay.of (K := K) s5)
    have sp5 := TStay.of s5 _ _ sp
    have dp5 := dp.mono (TStay.of s5)
    generalize upd (upd H4 l (.lst us)) kp (.tup us) = H5 at ekp g5 tt5 sp5 dp5
    -- put(term, parts), _law_put(term, parts)
    refine ⟨_, rfl, _, rfl, v, pa, t, us, ps, rfl, tt5, by omega, sp5, dp5, hnd, by omega, hps2, fun H6 u6 s6 t6 => ?_⟩
    have tt6 := tt5.mono (TStay.of (K := K) s6)
    refine ⟨_, rfl, _, rfl, v, pa, t, us, ps, rfl, tt6, th, by omega, TStay.of s6 _ _ sp5, dp5.mono (TStay.of s6), hps2, fun H7 u7 s7 t7 => ?_⟩
    refine ⟨u6, u7, _, rfl, t6.mono (TStay.of (K := K) s7), t7, by omega, _, rfl, iteF ?_⟩
    have s57 := s6.trans s7
    have dp7 := (DAt.tup (TStay.of s57 _ _ sp5) (dp5.mono (TStay.of s57)) (by rw [dp5.length, List.length_map]; omega)).dp
    have dk7 := (DAt.tup (TStay.of s57 _ _ ekp) (dp5.mono (TStay.of s57)) (by rw [dp5.length, List.length_map]; omega)).dp
    have shp := parts_shaped hps
    refine ⟨_, rfl, _, rfl, _, _, dp7, dk7, shp, shp, _, rfl, ?_⟩
    rw [SeqAt.eqv_refl _ (SeqAt.canLay_of_shaped shp)]
    refine iteF ?_
    have g7 := g5.go (Keep.of s57) (g5.s.state.same s57)
    have tt7 := tt6.mono (TStay.of (K := K) s7)
    -- put(term, ())
    refine ⟨_, rfl, Nat.zero_le _, fun e he => ⟨v, e, t, [], [], rfl, tt7.mono (TStay.new he _), by omega, SqT.of upd_same, .nil, List.nodup_nil, Nat.zero_le _, fun _ h => absurd h List.not_mem_nil, fun H8 u8 s8 t8 => ?_⟩⟩
    rw [Tm.put_nil] at t8
    have s78 := (same_new he (.tup [])).trans s8
    have tt8 := tt7.mono (TStay.of (K := K) s78)
    have htd := Tm.dat_high t
    refine ⟨_, rfl, u8, v, _, rfl, t8, tt8, by omega, _, rfl, iteF ?_⟩
    have g8 := g7.go (Keep.of s78) (g7.s.state.same s78)
    -- more = ..
    refine ⟨_, rfl, _, rfl, st, sc, ns, d4, 4, rfl, g8.s, g8.n63, by decide, by decide, fun H9 r k9 S9 r0 r1 => ?_⟩
    have g9 := g8.of k9 S9
    refine ⟨r, rfl, by omega, by omega, fun D hD => lc_range (lo := 0) (n := r.toNat) (fun i H' => ∃ (ws : List V) (ts : List Tm) (d' : Int), H' D = some (.lst ws) ∧ DsAt K H' ws (ts.map Tm.dat) ∧ Keep st H9 H' ∧ StAt H' st d' ∧ ts.length = i ∧ ∀ u ∈ ts, u.size ≤ 5)
      ⟨[], [], d4, upd_same, .nil, Keep.new hD _, g9.s.state.upd (g9.s.ne hD) _, rfl, fun _ h => absurd h List.not_mem_nil⟩ ?_ ?_⟩
    · rintro i H10 hi ⟨ws, ts, d', e10, ds10, k10, s10, len10, all10⟩
      have g10 := g9.go k10 s10
      have Dst := g9.s.ne hD
      refine ⟨rfl, ?_⟩
      refine yesT ?_
      refine ⟨_, rfl, _, rfl, _, rfl, st, sc, pl, ns, ks, d', 5, rfl, g10, by decide, by decide, fun H11 u tu d11 k11 g11 tt11 _ tz11 => ?_⟩
      have e11 := k11 _ _ Dst e10
      have lws : ws.length = ts.length := by rw [ds10.length, List.length_map]
      refine ⟨ws, e11, by rw [lws, len10, sizeLine_eq]; omega, ws ++ [u], ts ++ [tu], d11, upd_same, ?_, (k10.trans k11).upd hD _, g11.s.state.upd Dst _, ?_, ?_⟩
      · rw [List.map_append]
        exact (DsAt.append (ds10.mono (s10.ts k11)) (.cons tt11 .nil)).mono (TStay.lst e11 _)
      · rw [List.length_append, len10]
        rfl
      · intro x hx
        rcases List.mem_append.mp hx with hx | hx
        · exact all10 x hx
        · rw [List.mem_singleton.mp hx]
          omega
    · rintro H10 ⟨ws, ts, d', e10, ds10, k10, s10, len10, all10⟩
      have lws : ws.length = ts.length := by rw [ds10.length, List.length_map]
      refine ⟨D, ws, rfl, .inl ⟨SqL.of e10, fun m hm => ?_⟩⟩
      have g10 := (g9.go k10 s10).new hm (.tup ws)
      have tt10 := (tt8.mono (g8.s.ts (k9.trans k10))).mono (TStay.new hm (.tup ws))
      have em : SqT K (upd H10 m (.tup ws)) m ws := SqT.of upd_same
      have ds11 := ds10.mono (TStay.new (K := K) hm (.tup ws))
      generalize upd H10 m (.tup ws) = H11 at g10 tt10 em ds11
      have hargs : t.args.length ≤ 100 := by
        cases t with
        | mk y ys =>
          rw [Tm.size] at tz
          have := Tm.len_sizeL ys
          show ys.length ≤ _
          omega
      -- applied(term, more)
      refine ⟨_, rfl, _, rfl, v, m, t, ws, ts, rfl, tt10, em, ds11, by omega, by omega, fun H12 u12 s12 t12 => ?_⟩
      have tt12 := tt10.mono (TStay.of (K := K) s12)
      obtain ⟨a', b', vs', rfl, sa', sb', da', za'⟩ := TAt.inv tt12
      have lvs : vs'.length = t.args.length := by rw [da'.length, List.length_map]
      refine ⟨_, rfl, a', _, _, _, rfl, rfl, sa', atI_nat (j := 0) rfl, _, rfl, a', _, _, _, rfl, rfl, sa', atI_nat (j := 1) rfl, _, rfl, ?_⟩
      have hah := Tm.appl_high t ts
      have hts : Tm.highL ts ≤ 5 := by
        have key : ∀ l : List Tm, (∀ u ∈ l, u.size ≤ 5) → Tm.highL l ≤ 5 := by
          intro l
          induction l with
          | nil => intro _; rw [Tm.highL]; exact Nat.zero_le _
          | cons y ys ih =>
            intro h
            rw [Tm.highL]
            have h1 := h y (List.mem_cons_self ..)
            have h2 := Tm.high_size y
            have h3 := ih (fun u hu => h u (List.mem_cons_of_mem _ hu))
            omega
        exact key ts all10
      have had := Tm.dat_high (t.appl ts)
      have ct := cat_tup (K := K) (t := t) (ts := ts) (Q := fun v H' => Same H12 H' ∧ TAt K H' v (t.appl ts)) sb' da' (by omega) (TStay.of s12 _ _ em) (ds11.mono (TStay.of s12)) (by omega) (fun H' x s t => ⟨s, t⟩)
      obtain ⟨c0, b0, us0, ws0, q1, q2, q3, q4, q5, c1, c2, c3⟩ := ct
      have gf : ∀ H' : Hp, Same H12 H' → GOk K H' st sc pl ns ks d' := fun H' s13 => (g10.go (Keep.of s12) (g10.s.state.same s12)).go (Keep.of s13) ((g10.s.state.same s12).same s13)
      refine ⟨c0, b0, us0, ws0, q1, q2, q3, q4, q5, fun a => ⟨(c1 a).1, fun x hx => ?_⟩, fun a b => ⟨(c2 a b).1, fun x hx => ?_⟩, fun a b p hp => ⟨(c3 a b p hp).1, fun x hx => ?_⟩⟩
      · obtain ⟨s13, t13⟩ := (c1 a).2 x hx
        exact ⟨u12, .ref x, _, rfl, t12.mono (TStay.of (K := K) s13), t13, by omega, _, rfl, iteF ⟨d', _, _, _, _, _, _, rfl, gf _ s13⟩⟩
      · obtain ⟨s13, t13⟩ := (c2 a b).2 x hx
        exact ⟨u12, .ref x, _, rfl, t12.mono (TStay.of (K := K) s13), t13, by omega, _, rfl, iteF ⟨d', _, _, _, _, _, _, rfl, gf _ s13⟩⟩
      · obtain ⟨s13, t13⟩ := (c3 a b p hp).2 x hx
        exact ⟨u12, .ref x, _, rfl, t12.mono (TStay.of (K := K) s13), t13, by omega, _, rfl, iteF ⟨d', _, _, _, _, _, _, rfl, gf _ s13⟩⟩
  · rintro σ H2 ⟨d, z3, z4, z5, z6, z7, z8, rfl, g2⟩
    exact q _
end

theorem all_mk {l : PySem.W.OpenLaw} {w : World} {K : PySem.W.Frag} {h : Heap} {mg : Str → Option Value} {fa : Addr} (X : K.In h) (G : h.Ns mainGlobals mg) (hfa : mg "law" = some (.ref fa))
    {f0 : Addr} {od0 an0 : Option Addr} {sl0 : Array (Option Value)} {oc0 kV0 dc0 pm0 cd0 ct0 : Value}
    (a0 : PySem.W.nsIn K mainGlobals "places" = some (some (.ref f0))) (l0 : K.lookup f0 = some ⟨oc0, od0, .func (PySem.W.fnOf "places" "places" (defArgs s_places) (defBody s_places) (defScope s_places) .none kV0 dc0 pm0 an0 cd0 ct0), sl0⟩) (c0 : PySem.W.codeIn K cd0 "places" = true) (k0 : PySem.W.keepIn K (.ref f0) = true)
    {f1 : Addr} {od1 an1 : Option Addr} {sl1 : Array (Option Value)} {oc1 kV1 dc1 pm1 cd1 ct1 : Value}
    (a1 : PySem.W.nsIn K mainGlobals "assembled" = some (some (.ref f1))) (l1 : K.lookup f1 = some ⟨oc1, od1, .func (PySem.W.fnOf "assembled" "assembled" (defArgs s_assembled) (defBody s_assembled) (defScope s_assembled) .none kV1 dc1 pm1 an1 cd1 ct1), sl1⟩) (c1 : PySem.W.codeIn K cd1 "assembled" = true) (k1 : PySem.W.keepIn K (.ref f1) = true)
    {f2 : Addr} {od2 an2 : Option Addr} {sl2 : Array (Option Value)} {oc2 kV2 dc2 pm2 cd2 ct2 : Value}
    (a2 : PySem.W.nsIn K mainGlobals "applied" = some (some (.ref f2))) (l2 : K.lookup f2 = some ⟨oc2, od2, .func (PySem.W.fnOf "applied" "applied" (defArgs s_applied) (defBody s_applied) (defScope s_applied) .none kV2 dc2 pm2 an2 cd2 ct2), sl2⟩) (c2 : PySem.W.codeIn K cd2 "applied" = true) (k2 : PySem.W.keepIn K (.ref f2) = true)
    {f3 : Addr} {od3 an3 : Option Addr} {sl3 : Array (Option Value)} {oc3 kV3 dc3 pm3 cd3 ct3 : Value}
    (a3 : PySem.W.nsIn K mainGlobals "put" = some (some (.ref f3))) (l3 : K.lookup f3 = some ⟨oc3, od3, .func (PySem.W.fnOf "put" "put" (defArgs s_put) (defBody s_put) (defScope s_put) .none kV3 dc3 pm3 an3 cd3 ct3), sl3⟩) (c3 : PySem.W.codeIn K cd3 "put" = true) (k3 : PySem.W.keepIn K (.ref f3) = true)
    {f4 : Addr} {od4 an4 : Option Addr} {sl4 : Array (Option Value)} {oc4 kV4 dc4 pm4 cd4 ct4 : Value}
    (a4 : PySem.W.nsIn K mainGlobals "_law_pick" = some (some (.ref f4))) (l4 : K.lookup f4 = some ⟨oc4, od4, .func (PySem.W.fnOf "_law_pick" "_law_pick" (defArgs s_g_pick) (defBody s_g_pick) (defScope s_g_pick) .none kV4 dc4 pm4 an4 cd4 ct4), sl4⟩) (c4 : PySem.W.codeIn K cd4 "_law_pick" = true) (k4 : PySem.W.keepIn K (.ref f4) = true)
    {f5 : Addr} {od5 an5 : Option Addr} {sl5 : Array (Option Value)} {oc5 kV5 dc5 pm5 cd5 ct5 : Value}
    (a5 : PySem.W.nsIn K mainGlobals "_law_same" = some (some (.ref f5))) (l5 : K.lookup f5 = some ⟨oc5, od5, .func (PySem.W.fnOf "_law_same" "_law_same" (defArgs s_g_same) (defBody s_g_same) (defScope s_g_same) .none kV5 dc5 pm5 an5 cd5 ct5), sl5⟩) (c5 : PySem.W.codeIn K cd5 "_law_same" = true) (k5 : PySem.W.keepIn K (.ref f5) = true)
    {f6 : Addr} {od6 an6 : Option Addr} {sl6 : Array (Option Value)} {oc6 kV6 dc6 pm6 cd6 ct6 : Value}
    (a6 : PySem.W.nsIn K mainGlobals "_law_name" = some (some (.ref f6))) (l6 : K.lookup f6 = some ⟨oc6, od6, .func (PySem.W.fnOf "_law_name" "_law_name" (defArgs s_g_name) (defBody s_g_name) (defScope s_g_name) .none kV6 dc6 pm6 an6 cd6 ct6), sl6⟩) (c6 : PySem.W.codeIn K cd6 "_law_name" = true) (k6 : PySem.W.keepIn K (.ref f6) = true)
    {f7 : Addr} {od7 an7 : Option Addr} {sl7 : Array (Option Value)} {oc7 kV7 dc7 pm7 cd7 ct7 : Value}
    (a7 : PySem.W.nsIn K mainGlobals "_law_head" = some (some (.ref f7))) (l7 : K.lookup f7 = some ⟨oc7, od7, .func (PySem.W.fnOf "_law_head" "_law_head" (defArgs s_g_head) (defBody s_g_head) (defScope s_g_head) .none kV7 dc7 pm7 an7 cd7 ct7), sl7⟩) (c7 : PySem.W.codeIn K cd7 "_law_head" = true) (k7 : PySem.W.keepIn K (.ref f7) = true)
    {f8 : Addr} {od8 an8 : Option Addr} {sl8 : Array (Option Value)} {oc8 kV8 dc8 pm8 cd8 ct8 : Value}
    (a8 : PySem.W.nsIn K mainGlobals "_law_pool" = some (some (.ref f8))) (l8 : K.lookup f8 = some ⟨oc8, od8, .func (PySem.W.fnOf "_law_pool" "_law_pool" (defArgs s_g_pool) (defBody s_g_pool) (defScope s_g_pool) .none kV8 dc8 pm8 an8 cd8 ct8), sl8⟩) (c8 : PySem.W.codeIn K cd8 "_law_pool" = true) (k8 : PySem.W.keepIn K (.ref f8) = true)
    {f9 : Addr} {od9 an9 : Option Addr} {sl9 : Array (Option Value)} {oc9 kV9 dc9 pm9 cd9 ct9 : Value}
    (a9 : PySem.W.nsIn K mainGlobals "_law_any" = some (some (.ref f9))) (l9 : K.lookup f9 = some ⟨oc9, od9, .func (PySem.W.fnOf "_law_any" "_law_any" (defArgs s_g_any) (defBody s_g_any) (defScope s_g_any) .none kV9 dc9 pm9 an9 cd9 ct9), sl9⟩) (c9 : PySem.W.codeIn K cd9 "_law_any" = true) (k9 : PySem.W.keepIn K (.ref f9) = true)
    {f10 : Addr} {od10 an10 : Option Addr} {sl10 : Array (Option Value)} {oc10 kV10 dc10 pm10 cd10 ct10 : Value}
    (a10 : PySem.W.nsIn K mainGlobals "_law_deep" = some (some (.ref f10))) (l10 : K.lookup f10 = some ⟨oc10, od10, .func (PySem.W.fnOf "_law_deep" "_law_deep" (defArgs s_g_deep) (defBody s_g_deep) (defScope s_g_deep) .none kV10 dc10 pm10 an10 cd10 ct10), sl10⟩) (c10 : PySem.W.codeIn K cd10 "_law_deep" = true) (k10 : PySem.W.keepIn K (.ref f10) = true)
    {f11 : Addr} {od11 an11 : Option Addr} {sl11 : Array (Option Value)} {oc11 kV11 dc11 pm11 cd11 ct11 : Value}
    (a11 : PySem.W.nsIn K mainGlobals "_law_chain" = some (some (.ref f11))) (l11 : K.lookup f11 = some ⟨oc11, od11, .func (PySem.W.fnOf "_law_chain" "_law_chain" (defArgs s_g_chain) (defBody s_g_chain) (defScope s_g_chain) .none kV11 dc11 pm11 an11 cd11 ct11), sl11⟩) (c11 : PySem.W.codeIn K cd11 "_law_chain" = true) (k11 : PySem.W.keepIn K (.ref f11) = true)
    {f12 : Addr} {od12 an12 : Option Addr} {sl12 : Array (Option Value)} {oc12 kV12 dc12 pm12 cd12 ct12 : Value}
    (a12 : PySem.W.nsIn K mainGlobals "_law_term" = some (some (.ref f12))) (l12 : K.lookup f12 = some ⟨oc12, od12, .func (PySem.W.fnOf "_law_term" "_law_term" (defArgs s_g_term) (defBody s_g_term) (defScope s_g_term) .none kV12 dc12 pm12 an12 cd12 ct12), sl12⟩) (c12 : PySem.W.codeIn K cd12 "_law_term" = true) (k12 : PySem.W.keepIn K (.ref f12) = true)
    {f13 : Addr} {od13 an13 : Option Addr} {sl13 : Array (Option Value)} {oc13 kV13 dc13 pm13 cd13 ct13 : Value}
    (a13 : PySem.W.nsIn K mainGlobals "_law_heads" = some (some (.ref f13))) (l13 : K.lookup f13 = some ⟨oc13, od13, .func (PySem.W.fnOf "_law_heads" "_law_heads" (defArgs s_g_heads) (defBody s_g_heads) (defScope s_g_heads) .none kV13 dc13 pm13 an13 cd13 ct13), sl13⟩) (c13 : PySem.W.codeIn K cd13 "_law_heads" = true) (k13 : PySem.W.keepIn K (.ref f13) = true)
    {f14 : Addr} {od14 an14 : Option Addr} {sl14 : Array (Option Value)} {oc14 kV14 dc14 pm14 cd14 ct14 : Value}
    (a14 : PySem.W.nsIn K mainGlobals "_law_once" = some (some (.ref f14))) (l14 : K.lookup f14 = some ⟨oc14, od14, .func (PySem.W.fnOf "_law_once" "_law_once" (defArgs s_g_once) (defBody s_g_once) (defScope s_g_once) .none kV14 dc14 pm14 an14 cd14 ct14), sl14⟩) (c14 : PySem.W.codeIn K cd14 "_law_once" = true) (k14 : PySem.W.keepIn K (.ref f14) = true)
    {f15 : Addr} {od15 an15 : Option Addr} {sl15 : Array (Option Value)} {oc15 kV15 dc15 pm15 cd15 ct15 : Value}
    (a15 : PySem.W.nsIn K mainGlobals "_law_put" = some (some (.ref f15))) (l15 : K.lookup f15 = some ⟨oc15, od15, .func (PySem.W.fnOf "_law_put" "_law_put" (defArgs s_g_put) (defBody s_g_put) (defScope s_g_put) .none kV15 dc15 pm15 an15 cd15 ct15), sl15⟩) (c15 : PySem.W.codeIn K cd15 "_law_put" = true) (k15 : PySem.W.keepIn K (.ref f15) = true)
    {f16 : Addr} {od16 an16 : Option Addr} {sl16 : Array (Option Value)} {oc16 kV16 dc16 pm16 cd16 ct16 : Value}
    (a16 : PySem.W.nsIn K mainGlobals "_law_parts" = some (some (.ref f16))) (l16 : K.lookup f16 = some ⟨oc16, od16, .func (PySem.W.fnOf "_law_parts" "_law_parts" (defArgs s_g_parts) (defBody s_g_parts) (defScope s_g_parts) .none kV16 dc16 pm16 an16 cd16 ct16), sl16⟩) (c16 : PySem.W.codeIn K cd16 "_law_parts" = true) (k16 : PySem.W.keepIn K (.ref f16) = true)
    {f17 : Addr} {od17 an17 : Option Addr} {sl17 : Array (Option Value)} {oc17 kV17 dc17 pm17 cd17 ct17 : Value}
    (a17 : PySem.W.nsIn K mainGlobals "law" = some (some (.ref f17))) (l17 : K.lookup f17 = some ⟨oc17, od17, .func (PySem.W.fnOf "law" "law" (defArgs s_law) (defBody s_law) (defScope s_law) .none kV17 dc17 pm17 an17 cd17 ct17), sl17⟩) (c17 : PySem.W.codeIn K cd17 "law" = true) (k17 : PySem.W.keepIn K (.ref f17) = true)
    (z_len : PySem.W.nsIn K mainGlobals "len" = some none)
    (z_tuple : PySem.W.nsIn K mainGlobals "tuple" = some none)
    (z_isinstance : PySem.W.nsIn K mainGlobals "isinstance" = some none)
    (z_int : PySem.W.nsIn K mainGlobals "int" = some none)
    (z_str : PySem.W.nsIn K mainGlobals "str" = some none)
    (z_bool : PySem.W.nsIn K mainGlobals "bool" = some none)
    (z_range : PySem.W.nsIn K mainGlobals "range" = some none)
    (z_abs : PySem.W.nsIn K mainGlobals "abs" = some none)
    (z_list : PySem.W.nsIn K mainGlobals "list" = some none)
    (z_reversed : PySem.W.nsIn K mainGlobals "reversed" = some none)
    : ∃ fd : FuncData, (∀ (s : Shared) (v : Value), BindsTo s fd ⟨[v], []⟩ [("script", v)]) ∧ ∀ base : Heap, K.In base → base.Ns mainGlobals mg → FnOk l.prog w K mg base CX0 226 fa fd ["script"] (spLaw K) := by
  have e := hfa.symm.trans (PySem.W.mg_of X G a17)
  cases e
  have F0 := fun_mk (st := s_places) l0 c0 k0
  have b0 := F0.binds (ps := ["term"]) fun _ _ _ _ _ _ us hl => match us, hl with | [_], _ => rfl
  have F1 := fun_mk (st := s_assembled) l1 c1 k1
  have b1 := F1.binds (ps := ["rows"]) fun _ _ _ _ _ _ us hl => match us, hl with | [_], _ => rfl
  have F2 := fun_mk (st := s_applied) l2 c2 k2
  have b2 := F2.binds (ps := ["term", "arguments"]) fun _ _ _ _ _ _ us hl => match us, hl with | [_, _], _ => rfl
  have F3 := fun_mk (st := s_put) l3 c3 k3
  have b3 := F3.binds (ps := ["term", "parts"]) fun _ _ _ _ _ _ us hl => match us, hl with | [_, _], _ => rfl
  have F4 := fun_mk (st := s_g_pick) l4 c4 k4
  have b4 := F4.binds (ps := ["state", "script", "many"]) fun _ _ _ _ _ _ us hl => match us, hl with | [_, _, _], _ => rfl
  have F5 := fun_mk (st := s_g_same) l5 c5 k5
  have b5 := F5.binds (ps := ["actual", "due"]) fun _ _ _ _ _ _ us hl => match us, hl with | [_, _], _ => rfl
  have F6 := fun_mk (st := s_g_name) l6 c6 k6
  have b6 := F6.binds (ps := ["state", "script", "large"]) fun _ _ _ _ _ _ us hl => match us, hl with | [_, _, _], _ => rfl
  have F7 := fun_mk (st := s_g_head) l7 c7 k7
  have b7 := F7.binds (ps := ["state", "script", "pool"]) fun _ _ _ _ _ _ us hl => match us, hl with | [_, _, _], _ => rfl
  have F8 := fun_mk (st := s_g_pool) l8 c8 k8
  have b8 := F8.binds (ps := ["state", "script"]) fun _ _ _ _ _ _ us hl => match us, hl with | [_, _], _ => rfl
  have F9 := fun_mk (st := s_g_any) l9 c9 k9
  have b9 := F9.binds (ps := ["state", "script", "pool", "depth"]) fun _ _ _ _ _ _ us hl => match us, hl with | [_, _, _, _], _ => rfl
  have F10 := fun_mk (st := s_g_deep) l10 c10 k10
  have b10 := F10.binds (ps := ["state", "script", "pool", "many"]) fun _ _ _ _ _ _ us hl => match us, hl with | [_, _, _, _], _ => rfl
  have F11 := fun_mk (st := s_g_chain) l11 c11 k11
  have b11 := F11.binds (ps := ["state", "script", "pool", "many"]) fun _ _ _ _ _ _ us hl => match us, hl with | [_, _, _, _], _ => rfl
  have F12 := fun_mk (st := s_g_term) l12 c12 k12
  have b12 := F12.binds (ps := ["state", "script", "pool", "most"]) fun _ _ _ _ _ _ us hl => match us, hl with | [_, _, _, _], _ => rfl
  have F13 := fun_mk (st := s_g_heads) l13 c13 k13
  have b13 := F13.binds (ps := ["term"]) fun _ _ _ _ _ _ us hl => match us, hl with | [_], _ => rfl
  have F14 := fun_mk (st := s_g_once) l14 c14 k14
  have b14 := F14.binds (ps := ["heads"]) fun _ _ _ _ _ _ us hl => match us, hl with | [_], _ => rfl
  have F15 := fun_mk (st := s_g_put) l15 c15 k15
  have b15 := F15.binds (ps := ["term", "parts"]) fun _ _ _ _ _ _ us hl => match us, hl with | [_, _], _ => rfl
  have F16 := fun_mk (st := s_g_parts) l16 c16 k16
  have b16 := F16.binds (ps := ["state", "script", "pool", "term", "most"]) fun _ _ _ _ _ _ us hl => match us, hl with | [_, _, _, _, _], _ => rfl
  have F17 := fun_mk (st := s_law) l17 c17 k17
  have b17 := F17.binds (ps := ["script"]) fun _ _ _ _ _ _ us hl => match us, hl with | [_], _ => rfl
  let T : Txt K mg := { f_places := f0, fd_places := _, d_places := ⟨F0, b0, PySem.W.mg_of X G a0⟩, f_assembled := f1, fd_assembled := _, d_assembled := ⟨F1, b1, PySem.W.mg_of X G a1⟩, f_applied := f2, fd_applied := _, d_applied := ⟨F2, b2, PySem.W.mg_of X G a2⟩, f_put := f3, fd_put := _, d_put := ⟨F3, b3, PySem.W.mg_of X G a3⟩, f_g_pick := f4, fd_g_pick := _, d_g_pick := ⟨F4, b4, PySem.W.mg_of X G a4⟩, f_g_same := f5, fd_g_same := _, d_g_same := ⟨F5, b5, PySem.W.mg_of X G a5⟩, f_g_name := f6, fd_g_name := _, d_g_name := ⟨F6, b6, PySem.W.mg_of X G a6⟩, f_g_head := f7, fd_g_head := _, d_g_head := ⟨F7, b7, PySem.W.mg_of X G a7⟩, f_g_pool := f8, fd_g_pool := _, d_g_pool := ⟨F8, b8, PySem.W.mg_of X G a8⟩, f_g_any := f9, fd_g_any := _, d_g_any := ⟨F9, b9, PySem.W.mg_of X G a9⟩, f_g_deep := f10, fd_g_deep := _, d_g_deep := ⟨F10, b10, PySem.W.mg_of X G a10⟩, f_g_chain := f11, fd_g_chain := _, d_g_chain := ⟨F11, b11, PySem.W.mg_of X G a11⟩, f_g_term := f12, fd_g_term := _, d_g_term := ⟨F12, b12, PySem.W.mg_of X G a12⟩, f_g_heads := f13, fd_g_heads := _, d_g_heads := ⟨F13, b13, PySem.W.mg_of X G a13⟩, f_g_once := f14, fd_g_once := _, d_g_once := ⟨F14, b14, PySem.W.mg_of X G a14⟩, f_g_put := f15, fd_g_put := _, d_g_put := ⟨F15, b15, PySem.W.mg_of X G a15⟩, f_g_parts := f16, fd_g_parts := _, d_g_parts := ⟨F16, b16, PySem.W.mg_of X G a16⟩, f_law := fa, fd_law := _, d_law := ⟨F17, b17, PySem.W.mg_of X G a17⟩, z_len := PySem.W.mg_none_of X G z_len, z_tuple := PySem.W.mg_none_of X G z_tuple, z_isinstance := PySem.W.mg_none_of X G z_isinstance, z_int := PySem.W.mg_none_of X G z_int, z_str := PySem.W.mg_none_of X G z_str, z_bool := PySem.W.mg_none_of X G z_bool, z_range := PySem.W.mg_none_of X G z_range, z_abs := PySem.W.mg_none_of X G z_abs, z_list := PySem.W.mg_none_of X G z_list, z_reversed := PySem.W.mg_none_of X G z_reversed }
  exact ⟨T.fd_law, fun s v => .of_eq rfl, fun base _ _ => ok_law T⟩
end DF
open PySem PySem.W PyProof.Rows in
set_option maxRecDepth 100000 in
set_option maxHeartbeats 0 in
theorem PySem.Challenge.cw_drivefold_k02_parts_put_in_holds : PySem.Challenge.rw_drivefold_k02_parts_put_in.Holds := by
  w_on; o_law; k_head; (case hw => w_witness2)
  k_fill
  refine L2.walk_of (l := PySem.Challenge.rw_drivefold_k02_parts_put_in) (n := 63) (k := 226) (x := "script") (CX := fun _ => L2.CX0) (sp := fun w => DF.spLaw _) rfl (by decide) rfl ⟨rfl, by decide, by decide⟩ (fun w h Y => PySem.W.kIn_of Y) ?F (fun _ _ a ns hl _ hS => ⟨a, ns, rfl, hS, hl, fun _ => rfl⟩) (fun _ _ _ _ _ h => h)
  case F =>
    intro w mg fa h KX G hmg
    refine' DF.all_mk KX G hmg ?a0 ?l0 ?c0 ?k0 ?a1 ?l1 ?c1 ?k1 ?a2 ?l2 ?c2 ?k2 ?a3 ?l3 ?c3 ?k3 ?a4 ?l4 ?c4 ?k4 ?a5 ?l5 ?c5 ?k5 ?a6 ?l6 ?c6 ?k6 ?a7 ?l7 ?c7 ?k7 ?a8 ?l8 ?c8 ?k8 ?a9 ?l9 ?c9 ?k9 ?a10 ?l10 ?c10 ?k10 ?a11 ?l11 ?c11 ?k11 ?a12 ?l12 ?c12 ?k12 ?a13 ?l13 ?c13 ?k13 ?a14 ?l14 ?c14 ?k14 ?a15 ?l15 ?c15 ?k15 ?a16 ?l16 ?c16 ?k16 ?a17 ?l17 ?c17 ?k17 ?z_len ?z_tuple ?z_isinstance ?z_int ?z_str ?z_bool ?z_range ?z_abs ?z_list ?z_reversed
    (case a0 => k_is)
    (case l0 => k_is)
    (case c0 => k_is)
    (case k0 => k_is)
    (case a1 => k_is)
    (case l1 => k_is)
    (case c1 => k_is)
    (case k1 => k_is)
    (case a2 => k_is)
    (case l2 => k_is)
    (case c2 => k_is)
    (case k2 => k_is)
    (case a3 => k_is)
    (case l3 => k_is)
    (case c3 => k_is)
    (case k3 => k_is)
    (case a4 => k_is)
    (case l4 => k_is)
    (case c4 => k_is)
    (case k4 => k_is)
    (case a5 => k_is)
    (case l5 => k_is)
    (case c5 => k_is)
    (case k5 => k_is)
    (case a6 => k_is)
    (case l6 => k_is)
    (case c6 => k_is)
    (case k6 => k_is)
    (case a7 => k_is)
    (case l7 => k_is)
    (case c7 => k_is)
    (case k7 => k_is)
    (case a8 => k_is)
    (case l8 => k_is)
    (case c8 => k_is)
    (case k8 => k_is)
    (case a9 => k_is)
    (case l9 => k_is)
    (case c9 => k_is)
    (case k9 => k_is)
    (case a10 => k_is)
    (case l10 => k_is)
    (case c10 => k_is)
    (case k10 => k_is)
    (case a11 => k_is)
    (case l11 => k_is)
    (case c11 => k_is)
    (case k11 => k_is)
    (case a12 => k_is)
    (case l12 => k_is)
    (case c12 => k_is)
    (case k12 => k_is)
    (case a13 => k_is)
    (case l13 => k_is)
    (case c13 => k_is)
    (case k13 => k_is)
    (case a14 => k_is)
    (case l14 => k_is)
    (case c14 => k_is)
    (case k14 => k_is)
    (case a15 => k_is)
    (case l15 => k_is)
    (case c15 => k_is)
    (case k15 => k_is)
    (case a16 => k_is)
    (case l16 => k_is)
    (case c16 => k_is)
    (case k16 => k_is)
    (case a17 => k_is)
    (case l17 => k_is)
    (case c17 => k_is)
    (case k17 => k_is)
    (case z_len => k_is)
    (case z_tuple => k_is)
    (case z_isinstance => k_is)
    (case z_int => k_is)
    (case z_str => k_is)
    (case z_bool => k_is)
    (case z_range => k_is)
    (case z_abs => k_is)
    (case z_list => k_is)
    (case z_reversed => k_is)
