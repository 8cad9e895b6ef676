/- Of what the proof is made: 2 texts, one behind the other. -/
import Derived.Test.YtkdlcomfpffhhaaGreatDoorM21
import Derived.Test.YtkdlcomfpffhhaaGreatDoorM23
import Derived.Test.YtkdlcomfpffhhaaGreatDoorM26
import Derived.Deep.Slices
import Derived.Deep.Strs
import Derived.ShutString
import Derived.ChangeSame
namespace Go.Proofs.YtkdlcomfpffhhaaGreatDoor
open Go.RowKit Go.Shelf Corb
attribute [local go_sem] Oper.semAt_some
end Go.Proofs.YtkdlcomfpffhhaaGreatDoor
namespace Go.Proofs.YtkdlcomfpffhhaaGreatDoor
open Go.RowKit Go.Deep Go.ChangeShapes Go.WideShapes
theorem list_two (cs:List Value) (h:cs.length=2):∃ c0 c1,cs=[c0,c1]:=by
 match cs,h with
 | [c0,c1],_=>exact ⟨c0,c1,rfl⟩
theorem files_cells {H:Type} {enc:TypeId×Value→H} {w:World} {base:Nat} {spare:Nat→Bool} {held:Bool} {fuel:Nat} {cs:List Value} {x:DataW H×List MemPlace}
  (h:DataW.trod enc Tryz.prog w base spare held fuel 38 cs=some x) :
  cs=[.slice none 0 0]∨∃ (a:Addr) (len cap:Nat),cs=[.slice (some a) len cap]∧len≤cap∧cap≤maxLen ∧
   ∀ i,i<len→∃ e:Fl,(∀ j,j<2→w.cell? (a.add (i*2+j))=(encF e)[j]?)∧e.p.size≤maxLen∧e.t.size≤maxLen:=by
 have ce:Tryz.prog.cellsOf 72=2:=by kernel_rfl
 have cS:Tryz.prog.cellsOf 9=1:=by kernel_rfl
 rcases open_slice Tryz.underlying38 h with ⟨h0,_⟩ | ⟨a,len,cap,m,n,D,Pl,rfl,hb,hl,hm,hmm,rfl,hx⟩
 ·
  exact .inl h0
 ·
  refine .inr ⟨a,len,cap,rfl,hl,hm,fun i hi'=>?_⟩
  have hlm:len≤m:=by rw [hmm]; split <;> omega
  obtain ⟨cs',h1,h2⟩:=hx i (by omega)
  rw [ce] at h1
  obtain ⟨_,hlen,hcell⟩:=World.cells?_some h1
  obtain ⟨c0,c1,rfl⟩:=list_two cs' hlen
  obtain ⟨xs,k,hk,hxy,_,hxl,hf⟩:=DataW.trod_struct Tryz.underlying72 h2
  have g0:=hf 0 _ rfl
  have g1:=hf 1 _ rfl
  simp [cS] at g0 g1
  match xs,hxl with
  | [y0,y1],_=>
   simp at g0 g1
   obtain ⟨e0,q0,_,k0⟩:=DataW.trod_string Tryz.underlying9 g0
   obtain ⟨e1,q1,_,k1⟩:=DataW.trod_string Tryz.underlying9 g1
   simp at q0 q1
   subst q0 q1
   refine ⟨⟨e0,e1⟩,fun j hj=>?_,k0,k1⟩
   have:=hcell j (by simpa using hj)
   rw [add_add] at this
   exact this
theorem files_row {W:World} {x:Addr} {len:Nat} (hc:∀ i,i<len→∃ e:Fl,(∀ j,j<2→W.cell? (x.add (i*2+j))=(encF e)[j]?)∧e.p.size≤maxLen∧e.t.size≤maxLen) :
  ∃ l,FRow W (some x) l∧l.length=len∧∀ i,i<len→(l.getD i default).p.size≤maxLen∧(l.getD i default).t.size≤maxLen:=by
 obtain ⟨f,hf⟩:=choose_lt (α:=Fl) hc
 have hg:∀ i,i<len→((List.range len).map f).getD i default=f i:=fun i hi=>by simp [List.getD,hi]
 refine ⟨(List.range len).map f,fun h0=>?_,by simp,fun i hi=>by rw [hg i hi]; exact (hf i hi).2⟩
 have h0':0<len:=by simpa using h0
 obtain ⟨b,off,spot⟩:=x
 have hc0:=(hf 0 (by omega)).1 0 (by omega)
 have hspot:spot=none:=by simpa [Addr.add] using World.cell?_spot hc0
 subst hspot
 refine ⟨b,off,rfl,by have:=World.block_lt_of_cell? _ _ hc0; simpa [Addr.add] using this,fun i hi=>?_⟩
 have hi':i<len:=by simpa using hi
 rw [hg i hi']
 refine fl_at fun j hj=>?_
 have:=(hf i hi').1 j hj
 rw [←this]
 by_cases z:i*2+j=0
 ·
  have:i=0∧j=0:=by omega
  obtain ⟨rfl,rfl⟩:=this
  simp [Addr.add]
 ·
  rw [show (⟨b,off,none⟩:Addr).add (i*2+j)=⟨b,off+i*2+j,none⟩ by unfold Addr.add; rw [if_neg z,Nat.add_assoc]]
end Go.Proofs.YtkdlcomfpffhhaaGreatDoor
