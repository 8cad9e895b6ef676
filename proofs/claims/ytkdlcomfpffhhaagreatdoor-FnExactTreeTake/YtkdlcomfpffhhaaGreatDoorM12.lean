/- Of what the proof is made: 5 texts, one behind the other. -/
import Derived.Test.YtkdlcomfpffhhaaGreatDoorM6
import Derived.Test.YtkdlcomfpffhhaaGreatDoorM8
import Derived.Lib.AppendZerosOnto
import Derived.Test.YtkdlcomfpffhhaaGreatDoorM11
import Derived.Deep.RegionHeld3
import Derived.BigQuiet
import Derived.Test.YtkdlcomfpffhhaaGreatDoorM5
namespace Go.Proofs.YtkdlcomfpffhhaaGreatDoor
open Go.RowKit Go.Lib
theorem grow_infoInt:(Tryz.prog.info? 3).map (fun i=>(i.zero,i.size,i.bytes))=some (some (Value.int .i64 0),1,8):=by kernel_rfl
set_option maxRecDepth 100000 in
set_option maxHeartbeats 800000 in
theorem growNilInt (n:Nat) (w:World) (hn:n≤100000) :
  Calls Tryz.prog 206 #[.slice none 0 0,.int .i64 (n:Nat)] w fun e w'=>∃ v,e = .returned v∧(∃ c,v = .slice none 0 c∨v = .slice (some ⟨w.heap.size,0,none⟩) 0 c)∧w'.ownsRow w.heap.size 3 1 v 0 []∧Below w.heap.size w w':=by
 obtain ⟨i0,hi,hz0,hz1,hz2⟩:=info_parts grow_infoInt
 have hnI:(n:Int)≤100000:=by omega
 by_cases h0:n=0
 ·
  subst h0
  clear hz0 hz1 hz2 hi
  go_enter Tryz.func206,Tryz.ntmps206
  go_wp2
  go_ret
  exact ⟨_,rfl,⟨0,.inl rfl⟩,World.ownsRow_nil _ _ _ _,Below.refl _ _⟩
 ·
  have hold:(Builtin.firstCells i0.size 0 (.slice none 0 0)).run Tryz.prog w.drew = .ok ([]:List Value).toArray w.drew:=run_firstCells_none w.drew i0.size 0 0 0
  have hrz:=hide (fun ty=>Lib.run_append_grow_zeros w 146 3 ty 3 i0 (Value.int .i64 0) .i64 .i64 Tryz.underlying146 Tryz.underlying3 hi hz0 none 0 0 [] hold n (by omega) (by rw [hz1]; decide) (by omega) (by omega) (by rw [hz2]; omega) (growslice_fits (by omega) (by rw [hz2]; omega)))
  rw [Nat.zero_add] at hrz
  have hGn:n≤grownCap w n 0 3:=grownCap_ge w _ _ _
  have hGm:grownCap w n 0 3≤maxLen:=grownCap_le_maxLen w n 0 _ (by unfold maxLen; omega)
  generalize grownCap w n 0 3=G at *
  have hsz:Hid ((([]:List Value).toArray++Builtin.zeroCells ((Value.int .i64 0):Value).cells n++Builtin.zeroCells ((Value.int .i64 0):Value).cells (G-n)).size=G*1):=by
   show _=_
   simp only [Array.size_append,size_zeroCells]
   have e:((Value.int .i64 0):Value).cells.size=1:=rfl
   rw [e]
   simp
   omega
  generalize (([]:List Value).toArray++Builtin.zeroCells ((Value.int .i64 0):Value).cells n++Builtin.zeroCells ((Value.int .i64 0):Value).cells (G-n))=cur at *
  have h1I:(1:Int)≤(n:Int):=by omega
  have hG0:¬ G=0:=by omega
  have HM:=hide hGm
  clear hold hz0 hz1 hz2 hi hGm hGn h0
  go_enter Tryz.func206,Tryz.ntmps206
  go_wp2_with (at_builtin; refine Lib.wpList_append_run _ rfl _ _ _ _ rfl _ _ rfl rfl _ _ (unhide hrz _) ?_)
  go_ret
  refine ⟨_,rfl,⟨G,.inr rfl⟩,World.ownsRow_made w.drew cur G (Nat.le_refl _) (unhide HM) (unhide hsz),((Below.refl _ _).drew).alloc (Nat.le_refl _) _⟩
def RowsInt (w:World) (p ob:Nat) (R:List (Value×List Value)):Prop:=∀ j,j<R.length→w.cell? ⟨p,j,none⟩=some (R.getD j (.slice none 0 0,[])).1∧∃ n,w.ownsRow ob 3 1 (R.getD j (.slice none 0 0,[])).1 n (R.getD j (.slice none 0 0,[])).2∧(∀ u∈(R.getD j (.slice none 0 0,[])).2,u.oneCell'=true)
def rowLenInt (x:Value×List Value):Nat:=x.2.length/1
def rowsLenInt (R:List (Value×List Value)):Nat:=(R.map rowLenInt).sum
def rowsAllInt (R:List (Value×List Value)):List Value:=R.flatMap Prod.snd
theorem rows_takeInt (R:List (Value×List Value)) (k:Nat) (h:k<R.length):R.take (k+1)=R.take k++[R.getD k (.slice none 0 0,[])]:=by
 rw [List.take_succ_eq_append_getElem h]
 congr 2
 simp [List.getD,h]
theorem rowsLen_takeInt (R:List (Value×List Value)) (k:Nat) (h:k<R.length):rowsLenInt (R.take (k+1))=rowsLenInt (R.take k)+rowLenInt (R.getD k (.slice none 0 0,[])):=by
 rw [rows_takeInt R k h]; simp [rowsLenInt]
theorem rowsAll_takeInt (R:List (Value×List Value)) (k:Nat) (h:k<R.length):rowsAllInt (R.take (k+1))=rowsAllInt (R.take k)++(R.getD k (.slice none 0 0,[])).2:=by
 rw [rows_takeInt R k h]; simp [rowsAllInt]
theorem rowsLen_leInt (R:List (Value×List Value)) (k:Nat):rowsLenInt (R.take k)≤rowsLenInt R:=by
 have e0:∀ A B:List (Value×List Value),rowsLenInt (A++B)=rowsLenInt A+rowsLenInt B:=fun A B=>by simp [rowsLenInt]
 have e:=e0 (R.take k) (R.drop k)
 rw [List.take_append_drop] at e
 omega
theorem RowsInt.later {w w':World} {p ob:Nat} {R:List (Value×List Value)} (h:RowsInt w p ob R) (hb:Below w.heap.size w w'):RowsInt w' p ob R:=by
 intro j hj
 obtain ⟨h1,n,h2,h3⟩:=h j hj
 refine ⟨(hb.cell (p:=⟨p,j,none⟩) (World.block_lt_of_cell? w ⟨p,j,none⟩ h1)).trans h1,n,?_,h3⟩
 refine ⟨h2.1,?_⟩
 rcases h2.2 with hn | ⟨g,cap,cur,e,hbg,hgg,rest⟩
 ·
  exact .inl hn
 ·
  exact .inr ⟨g,cap,cur,e,hbg,(hb.block g (Array.getElem?_eq_some_iff.1 hgg).1).trans hgg,rest⟩
theorem RowsInt.form {w:World} {p ob:Nat} {R:List (Value×List Value)} (h:RowsInt w p ob R) (j:Nat) (hj:j<R.length):∃ a c,(R.getD j (.slice none 0 0,[])).1 = .slice a (rowLenInt (R.getD j (.slice none 0 0,[]))) c∧w.ownsRow ob 3 1 (.slice a (rowLenInt (R.getD j (.slice none 0 0,[]))) c) (rowLenInt (R.getD j (.slice none 0 0,[]))) (R.getD j (.slice none 0 0,[])).2∧(∀ u∈(R.getD j (.slice none 0 0,[])).2,u.oneCell'=true):=by
 obtain ⟨_,n,h2,h3⟩:=h j hj
 have hn:rowLenInt (R.getD j (.slice none 0 0,[]))=n:=by
  unfold rowLenInt
  rw [h2.1]
  omega
 rw [hn]
 rcases h2.2 with ⟨e,e0⟩ | ⟨g,cap,cur,e,_⟩
 ·
  subst e0
  exact ⟨none,0,e,by have h4:=h2; rw [e] at h4; exact h4,h3⟩
 ·
  exact ⟨_,cap,e,by have h4:=h2; rw [e] at h4; exact h4,h3⟩
set_option maxRecDepth 100000 in
set_option maxHeartbeats 1600000 in
theorem concatInt (p ob m c:Nat) (R:List (Value×List Value)) (w:World) (hm:R.length=m) (h1:1≤m) (hm2:m≤1000) (h:RowsInt w p ob R) (hl:rowsLenInt R≤100000) :
  Calls Tryz.prog 172 #[.slice (some ⟨p,0,none⟩) m c] w fun e w'=>∃ v,e = .returned v∧w'.ownsRow w.heap.size 3 1 v (rowsLenInt R) (rowsAllInt R)∧Below w.heap.size w w':=by
 obtain ⟨i0,hi,hz0,hz1,hz2⟩:=info_parts grow_infoInt
 have hmI:(m:Int)≤1000:=by omega
 have HM:=hide (And.intro hm (And.intro h1 hm2))
 have HL:=hide hl
 have H:=hide h
 have hGr:=hide (fun n hn=>growNilInt n w hn)
 clear hm h1 hm2 hl h
 go_enter Tryz.func172,Tryz.ntmps172
 go_wp2_with fail
 go_loop [3,5,11] (fun s _ i=>∃ k:Nat,k≤m∧i = .int .i64 k∧s = .int .i64 (rowsLenInt (R.take k):Nat)) (fun _ _ i=>m-(intOf i).toNat)
 case atStart=>exact ⟨0,Nat.zero_le _,rfl,rfl⟩
 case round=>
  obtain ⟨k,hk,rfl,rfl⟩:=hrel
  have HK:=hide hk
  by_cases hlt:k<m
  ·
   have hR:=unhide H k (by rw [(unhide HM).1]; exact hlt)
   obtain ⟨a,c1,e,_,_⟩:=(unhide H).form k (by rw [(unhide HM).1]; exact hlt)
   have c0:=hR.1
   rw [e] at c0
   have hst:=hide (rowsLen_takeInt R k (by rw [(unhide HM).1]; exact hlt))
   have hle:=rowsLen_leInt R (k+1)
   have hle2:(rowsLenInt (R.take k):Int)+(rowLenInt (R.getD k (.slice none 0 0,[])):Int)≤100000:=by have:=unhide hst; have:=unhide HL; omega
   clear hR e hle hk
   generalize rowLenInt (R.getD k (.slice none 0 0,[]))=q at *
   generalize rowsLenInt (R.take k)=s at *
   go_wp2
   go_round
   case rel=>exact ⟨k+1,by have:=unhide HK; omega,by go_num,by rw [unhide hst]; go_num⟩
   case measure=>simp [intOf]; omega
  ·
   obtain rfl:k=m:=by omega
   have hta:R.take k=R:=List.take_of_length_le (by rw [(unhide HM).1]; exact Nat.le_refl _)
   rw [hta]
   have hNI:(rowsLenInt R:Int)≤100000:=by have:=unhide HL; omega
   have HN:Hid (rowsLenInt R≤100000):=by show _≤_; have:=unhide HL; omega
   clear hta hk hlt
   generalize hN:rowsLenInt R=N at *
   have HNe:=hide hN
   clear hN
   go_wp2_with fail
   refine (unhide hGr N (unhide HN)).mono ?_
   rintro e x1 ⟨v,rfl,⟨cg,hv⟩,ho,hb⟩
   have hform:∃ a,v = .slice a 0 cg:=by
    rcases hv with hv | hv
    ·
     exact ⟨_,hv⟩
    ·
     exact ⟨_,hv⟩
   obtain ⟨va,rfl⟩:=hform
   clear hv
   go_wp2_with fail
   go_loopw [6,8,27] (fun s _ i wr=>∃ j:Nat,j≤k∧i = .int .i64 j∧wr.ownsRow w.heap.size 3 1 s (rowsLenInt (R.take j)) (rowsAllInt (R.take j))∧Below w.heap.size w wr) (fun _ _ i _=>k-(intOf i).toNat)
   case atStart=>exact ⟨0,Nat.zero_le _,rfl,ho,hb⟩
   case round=>
    obtain ⟨j,hj,rfl,hq,hbel⟩:=hrel
    clear ho hb
    have HJ:=hide hj
    have hbs:=hbel.size
    by_cases hlt:j<k
    ·
     have hRw:=(unhide H).later hbel
     have hR:=hRw j (by rw [(unhide HM).1]; exact hlt)
     obtain ⟨a,c1,e,hsrc,hone⟩:=hRw.form j (by rw [(unhide HM).1]; exact hlt)
     have c0:=hR.1
     rw [e] at c0
     have hst:=hide (rowsLen_takeInt R j (by rw [(unhide HM).1]; exact hlt))
     have hsa:=hide (rowsAll_takeInt R j (by rw [(unhide HM).1]; exact hlt))
     have hle:=rowsLen_leInt R (j+1)
     have hbb:Hid (rowsLenInt (R.take j)+rowLenInt (R.getD j (.slice none 0 0,[]))≤maxLen∧(rowsLenInt (R.take j)+rowLenInt (R.getD j (.slice none 0 0,[])))*8≤140737488355328):=by
      have:=unhide hst; have:=unhide HNe; have:=unhide HN
      show _∧_
      unfold maxLen
      omega
     have HX:=hide (And.intro hsrc hone)
     clear hR e hle hj hRw hsrc hone
     generalize rowLenInt (R.getD j (.slice none 0 0,[]))=q at *
     generalize (R.getD j (.slice none 0 0,[])).2=xs at *
     go_wp2_with (at_builtin; refine wpList_append_rows _ rfl _ _ 146 rfl w.heap.size 3 i0 (Value.int .i64 0) 1 8 Tryz.underlying146 hi hz0 hz1 hz2 rfl (by decide) _ _ _ rfl hq _ ob q xs rfl (unhide HX).1 (unhide HX).2 (unhide hbb).1 (unhide hbb).2 hbs ?_; intro v' x2 hown hgrow)
     have hb2:Below w.heap.size w x2:=hbel.grown hgrow hbs (fun b h=>(World.ownsRow.lt hq b h).1)
     rw [←unhide hst,←unhide hsa] at hown
     clear hgrow hq hbel
     go_wp2
     go_roundw
     case rel=>exact ⟨j+1,by have:=unhide HJ; omega,by go_num,hown,hb2⟩
     case measure=>simp [intOf]; omega
    ·
     obtain rfl:j=k:=by omega
     have hta:R.take j=R:=List.take_of_length_le (by rw [(unhide HM).1]; exact Nat.le_refl _)
     rw [hta,unhide HNe] at hq
     have hqf:∃ a c,u6 = .slice a N c:=by
      rcases hq.2 with ⟨e,e0⟩ | ⟨g,cap,cur,e,_⟩
      ·
       subst e0; exact ⟨_,_,e⟩
      ·
       exact ⟨_,_,e⟩
     obtain ⟨qa,qc,rfl⟩:=hqf
     clear hta
     go_wp2
     go_ret
     exact ⟨_,rfl,by rw [unhide HNe]; exact hq,hbel⟩
end Go.Proofs.YtkdlcomfpffhhaaGreatDoor
namespace Go.Proofs.YtkdlcomfpffhhaaGreatDoor
open Go.RowKit
def lessG (x y:Grp):Bool:=decide (x.cnt<y.cnt) || (decide (x.cnt=y.cnt)&&decide (x.fst<y.fst))
def leastF (L:List Grp):Nat→Nat
 | 0=>0
 | k+1=>if lessG (L.getD (k+1) g0) (L.getD (leastF L k) g0) then k+1 else leastF L k
def least (L:List Grp):Nat:=leastF L (L.length-1)
def bare (g:Grp):Grp:=⟨g.cnt,g.fst,g.syms,.slice none 0 0⟩
def seed (l:List Int):Nat→List Grp
 | 0=>[]
 | k+1=>if 0<l.getD k 0 then seed l k++[⟨l.getD k 0,(k:Int),[(k:Int)],.slice none 0 0⟩] else seed l k
def joinG (a b:Grp):Grp:=⟨a.cnt+b.cnt,if b.fst<a.fst then b.fst else a.fst,a.syms++b.syms,.slice none 0 0⟩
def firstG (M:List Grp):Grp:=M.getD (least M) g0
def restU (M:List Grp):List Grp:=M.eraseIdx (least M)
def stepG (M:List Grp):List Grp:=restU (restU M)++[joinG (firstG M) (firstG (restU M))]
def symsG (M:List Grp):List Int:=(firstG M).syms++(firstG (restU M)).syms
def bump1 (o:List Int) (i:Int):List Int:=o.set i.toNat (o.getD i.toNat 0+1)
def bump (o s:List Int):List Int:=s.foldl bump1 o
def hufI (l:List Int):Nat→List Grp×List Int
 | 0=>(seed l l.length,List.replicate l.length 0)
 | k+1=>(stepG (hufI l k).1,bump (hufI l k).2 (symsG (hufI l k).1))
def hufL (l:List Int):List Int:=if (seed l l.length).length=1 then (List.replicate l.length 0).set ((seed l l.length).getD 0 g0).fst.toNat 1 else (hufI l ((seed l l.length).length-1)).2
/-! What is bare is as it was. -/
/-! Bounds. -/
/-! Lengths stay small. -/
/-! What is counted once more. -/
/-! All symbols, each once. -/
/-! Where all come as often. -/
def ones (l:List Int):Prop:=∀ i,i<l.length→l.getD i 0≤1
/-! Counts are halved. -/
def halfI (x:Int):Int:=(x+1)/2
def halfL (l:List Int):List Int:=l.map halfI
def sumP (l:List Int):Nat:=(l.map Int.toNat).sum
def mostL (o:List Int):Nat→Int
 | 0=>0
 | k+1=>if mostL o k<o.getD k 0 then o.getD k 0 else mostL o k
def fits (o:List Int) (m:Int):Bool:=decide (mostL o o.length≤m)
def fitF (m:Int):Nat→List Int→List Int
 | 0,l=>hufL l
 | f+1,l=>if fits (hufL l) m then hufL l else fitF m f (halfL l)
end Go.Proofs.YtkdlcomfpffhhaaGreatDoor
