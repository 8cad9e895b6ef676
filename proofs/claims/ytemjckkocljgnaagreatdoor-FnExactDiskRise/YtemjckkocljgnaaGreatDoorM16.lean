/- Of what the proof is made: 5 texts, one behind the other. -/
import Derived.Test.YtemjckkocljgnaaGreatDoorM14
import Derived.Test.YtemjckkocljgnaaGreatDoorRb1
import Derived.Test.YtemjckkocljgnaaGreatDoorM9
import Derived.BigRegion
namespace Go.Proofs.YtemjckkocljgnaaGreatDoor
open Go.RowKit
theorem IOwn.one (w:World) (base:Nat) (hb:base≤w.heap.size) (x:Int):IOwn (w.alloc (.cells #[.int .i64 x] 3)) base (.slice (some ⟨w.heap.size,0,none⟩) 1 1) [x]:=
 World.ownsRow_lit w #[.int .i64 x] 1 hb (by unfold maxLen; omega) rfl
theorem Syms.snoc {w:World} {ob:Nat} {l:List Grp} {g:Grp} (h:Syms w ob l) (hg:IOwn w ob g.val g.syms):Syms w ob (l++[g]):=by
 intro x hx
 simp only [List.mem_append,List.mem_singleton] at hx
 rcases hx with hx | rfl
 ·
  exact h x hx
 ·
  exact hg
theorem Syms.grown {t:TypeId} {w w':World} {ob base:Nat} {v:Value} {l m:List Grp} (h:Syms w ob l) (hr:Trow t w base v m) (ht:3≠t) (hg:w.grownBy w' v.ownBlock):Syms w' ob l:=
 fun g hgm=>World.ownsRow.kept (h g hgm) hg (type_apart (h g hgm) hr ht)
theorem Three.later {w w':World} {b:Nat} {v0 v1 v2:Value} (h:Three w b v0 v1 v2) (hb:Below w.heap.size w w'):Three w' b v0 v1 v2:=h.kept (hb.mono h.2.2.2.2.2.2)
theorem Trow.mono {t:TypeId} {w:World} {base base':Nat} {v:Value} {l:List Grp} (h:Trow t w base v l) (hb:base'≤base):Trow t w base' v l:=
 ⟨h.1,h.2.imp id fun ⟨g,c,u,e,hbg,r⟩=>⟨g,c,u,e,Nat.le_trans hb hbg,r⟩⟩
theorem Syms.sub {w:World} {ob:Nat} {l m:List Grp} (h:Syms w ob l) (hs:∀ g∈m,g∈l):Syms w ob m:=fun g hg=>h g (hs g hg)
def fitL (m:Int) (l:List Int):List Int:=fitF m (sumP l) l
def HP (L:List Grp):Prop:=∀ i,0<i→i<L.length→lessG (L.getD i g0) (L.getD ((i-1)/2) g0)=false
theorem KeepT.ints {w w':World} {base:Nat} {v:Value} {l:List Int} (h:KeepT 3 w w') (ho:IOwn w base v l):IOwn w' base v l:=h.own ho
theorem KeepT.syms {w w':World} {ob:Nat} {l:List Grp} (h:KeepT 3 w w') (hs:Syms w ob l):Syms w' ob l:=fun g hg=>h.ints (hs g hg)
end Go.Proofs.YtemjckkocljgnaaGreatDoor
namespace Go.Proofs.YtemjckkocljgnaaGreatDoor
open Go.RowKit Corb
theorem tcells_set (l:List Grp) (j:Nat) (x:Grp):(((tcells l).set (j*3) (.int .i64 x.cnt)).set (j*3+1) (.int .i64 x.fst)).set (j*3+2) x.val=tcells (l.set j x):=by
 induction l generalizing j with
 | nil=>simp [tcells]
 | cons p l ih=>
  cases j with
  | zero=>simp [tcells]
  | succ j=>
   rw [show (j+1)*3=j*3+1+1+1 by omega]
   simp only [tcells,List.set_cons_succ]
   rw [ih j]
theorem Trow.put {t:TypeId} {w:World} {base g cap n:Nat} {l:List Grp} (hn:l.length=n) (h:Trow t w base (.slice (some ⟨g,0,none⟩) n cap) l) (j:Nat) (x:Grp) :
  Trow t (((w.setCell ⟨g,j*3,none⟩ (.int .i64 x.cnt)).setCell ⟨g,j*3+1,none⟩ (.int .i64 x.fst)).setCell ⟨g,j*3+2,none⟩ x.val) base (.slice (some ⟨g,0,none⟩) n cap) (l.set j x):=by
 subst hn
 have h1:=(World.ownsRow.stored h (j*3) (.int .i64 x.cnt)).1
 have h2:=(World.ownsRow.stored h1 (j*3+1) (.int .i64 x.fst)).1
 have h3:=(World.ownsRow.stored h2 (j*3+2) x.val).1
 rw [tcells_set] at h3
 show World.ownsRow _ _ _ _ _ (l.set j x).length _
 rw [List.length_set]
 exact h3
theorem Trow.frozen {t:TypeId} {w:World} {base g cap n:Nat} {l:List Grp} (hn:l.length=n) (h:Trow t w base (.slice (some ⟨g,0,none⟩) n cap) l) (j:Nat):w.frozen? ⟨g,j,none⟩=false:=by
 subst hn; exact World.ownsRow.frozenAt h j
theorem Touch.drew {a:Option Addr} {w w':World} (h:Touch a w w'):Touch a w w'.drew:=h
theorem Trow.drew {t:TypeId} {w:World} {base:Nat} {v:Value} {l:List Grp} (h:Trow t w base v l):Trow t w.drew base v l:=h
end Go.Proofs.YtemjckkocljgnaaGreatDoor
