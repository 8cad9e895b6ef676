/- 'FnZipMoveSame' answers true at every input, and its argument reads behind the call as it read before; what the library's listed tables hold is tied to the program's text (the card). -/
import Derived.Test.YtfhdadkcophoaaaGreatDoorRows
import Derived.Test.YtfhdadkcophoaaaGreatDoorCards
import Derived.Test.YtfhdadkcophoaaaGreatDoorTie
import Derived.Test.YtfhdadkcophoaaaGreatDoorM5
import Derived.Test.YtfhdadkcophoaaaGreatDoorM46
import Derived.Test.YtfhdadkcophoaaaGreatDoorM32
import Derived.Test.YtfhdadkcophoaaaGreatDoorSx9
import Derived.Test.YtfhdadkcophoaaaGreatDoorM1
import Derived.Test.YtfhdadkcophoaaaGreatDoorM2
import Derived.Test.YtfhdadkcophoaaaGreatDoorM3
import Derived.Test.YtfhdadkcophoaaaGreatDoorM4
import Derived.Test.YtfhdadkcophoaaaGreatDoorM6
import Derived.Test.YtfhdadkcophoaaaGreatDoorM7
import Derived.Test.YtfhdadkcophoaaaGreatDoorM8
import Derived.Test.YtfhdadkcophoaaaGreatDoorM9
import Derived.Test.YtfhdadkcophoaaaGreatDoorM10
import Derived.Test.YtfhdadkcophoaaaGreatDoorM11
import Derived.Test.YtfhdadkcophoaaaGreatDoorM12
import Derived.Test.YtfhdadkcophoaaaGreatDoorM13
import Derived.Test.YtfhdadkcophoaaaGreatDoorM14
import Derived.Test.YtfhdadkcophoaaaGreatDoorM15
import Derived.Test.YtfhdadkcophoaaaGreatDoorM16
import Derived.Test.YtfhdadkcophoaaaGreatDoorM17
import Derived.Test.YtfhdadkcophoaaaGreatDoorM18
import Derived.Test.YtfhdadkcophoaaaGreatDoorM19
import Derived.Test.YtfhdadkcophoaaaGreatDoorM20
import Derived.Test.YtfhdadkcophoaaaGreatDoorM21
import Derived.Test.YtfhdadkcophoaaaGreatDoorM22
import Derived.Test.YtfhdadkcophoaaaGreatDoorM23
import Derived.Test.YtfhdadkcophoaaaGreatDoorM24
import Derived.Test.YtfhdadkcophoaaaGreatDoorM25
import Derived.Test.YtfhdadkcophoaaaGreatDoorM26
import Derived.Test.YtfhdadkcophoaaaGreatDoorM27
import Derived.Test.YtfhdadkcophoaaaGreatDoorM28
import Derived.Test.YtfhdadkcophoaaaGreatDoorM29
import Derived.Test.YtfhdadkcophoaaaGreatDoorM30
import Derived.Test.YtfhdadkcophoaaaGreatDoorM31
import Derived.Test.YtfhdadkcophoaaaGreatDoorM33
import Derived.Test.YtfhdadkcophoaaaGreatDoorM34
import Derived.Test.YtfhdadkcophoaaaGreatDoorM35
import Derived.Test.YtfhdadkcophoaaaGreatDoorM36
import Derived.Test.YtfhdadkcophoaaaGreatDoorM37
import Derived.Test.YtfhdadkcophoaaaGreatDoorM38
import Derived.Test.YtfhdadkcophoaaaGreatDoorM39
import Derived.Test.YtfhdadkcophoaaaGreatDoorM40
import Derived.Test.YtfhdadkcophoaaaGreatDoorM41
import Derived.Test.YtfhdadkcophoaaaGreatDoorM42
import Derived.Test.YtfhdadkcophoaaaGreatDoorM43
import Derived.Test.YtfhdadkcophoaaaGreatDoorM44
import Derived.Test.YtfhdadkcophoaaaGreatDoorM45
import Derived.Lib.AppendZerosOnto
import Derived.Lib.QuietBelow
import Derived.Deep.QuietTactic
import Derived.BigQuiet
import Derived.Deep.RegionLaw
import Derived.Lib.SliceRun
import Derived.ShutString
import Derived.ChangeOld
import Derived.Below
namespace Go.Proofs.YtfhdadkcophoaaaGreatDoor
section
open Go.RowKit Corb
open Go.Lib hiding intOf
set_option maxRecDepth 100000
set_option linter.defProp false
set_option linter.unusedSimpArgs false
set_option linter.unusedVariables false
theorem grow_infoEntry:(Tryz.prog.info? 26).map (fun i=>(i.zero,i.size,i.bytes))=some (some (.agg #[.string ⟨#[]⟩,.int .i64 0,.int .i64 0,.int .i64 0,.int .i64 0,.int .i64 0,.int .i64 0,.string ⟨#[]⟩]),8,80):=by kernel_rfl
set_option maxRecDepth 100000 in
set_option maxHeartbeats 800000 in
theorem growNilEntry (n:Nat) (w:World) (hn:n≤100000) :
  Calls Tryz.prog 107 #[.slice none 0 0,.int .i64 (n:Nat)] w fun e w'=>∃ v,e = .returned v∧(∃ c,v = .slice none 0 c∨v = .slice (some ⟨w.heap.size,0,none⟩) 0 c)∧w'.ownsRow w.heap.size 26 8 v 0 []∧Below w.heap.size w w':=by
 obtain ⟨i0,hi,hz0,hz1,hz2⟩:=info_parts grow_infoEntry
 have hnI:(n:Int)≤100000:=by omega
 by_cases h0:n=0
 ·
  subst h0
  clear hz0 hz1 hz2 hi
  go_enter Tryz.func107,Tryz.ntmps107
  go_wp2
  go_ret
  exact ⟨_,rfl,⟨0,.inl rfl⟩,World.ownsRow_nil _ _ _ _,Below.refl _ _⟩
 ·
  have hold:(Builtin.firstCells i0.size 0 (.slice none 0 0)).run Tryz.prog w.drew = .ok ([]:List Value).toArray w.drew:=run_firstCells_none w.drew i0.size 0 0 0
  have hrz:=af (fun ty=>Lib.run_append_grow_zeros w 30 3 ty 26 i0 (.agg #[.string ⟨#[]⟩,.int .i64 0,.int .i64 0,.int .i64 0,.int .i64 0,.int .i64 0,.int .i64 0,.string ⟨#[]⟩]) .i64 .i64 Tryz.underlying30 Tryz.underlying3 hi hz0 none 0 0 [] hold n (by omega) (by rw [hz1]; decide) (by omega) (by omega) (by rw [hz2]; omega) (growslice_fits (by omega) (by rw [hz2]; omega)))
  rw [Nat.zero_add] at hrz
  have hGn:n≤grownCap w n 0 26:=grownCap_ge w _ _ _
  have hGm:grownCap w n 0 26≤maxLen:=grownCap_le_maxLen w n 0 _ (by unfold maxLen; omega)
  generalize grownCap w n 0 26=G at *
  have hsz:Hid ((([]:List Value).toArray++Builtin.zeroCells ((Value.agg #[.string ⟨#[]⟩,.int .i64 0,.int .i64 0,.int .i64 0,.int .i64 0,.int .i64 0,.int .i64 0,.string ⟨#[]⟩]):Value).cells n++Builtin.zeroCells ((Value.agg #[.string ⟨#[]⟩,.int .i64 0,.int .i64 0,.int .i64 0,.int .i64 0,.int .i64 0,.int .i64 0,.string ⟨#[]⟩]):Value).cells (G-n)).size=G*8):=by
   show _=_
   simp only [Array.size_append,size_zeroCells]
   have e:((Value.agg #[.string ⟨#[]⟩,.int .i64 0,.int .i64 0,.int .i64 0,.int .i64 0,.int .i64 0,.int .i64 0,.string ⟨#[]⟩]):Value).cells.size=8:=rfl
   rw [e]
   simp
   omega
  generalize (([]:List Value).toArray++Builtin.zeroCells ((Value.agg #[.string ⟨#[]⟩,.int .i64 0,.int .i64 0,.int .i64 0,.int .i64 0,.int .i64 0,.int .i64 0,.string ⟨#[]⟩]):Value).cells n++Builtin.zeroCells ((Value.agg #[.string ⟨#[]⟩,.int .i64 0,.int .i64 0,.int .i64 0,.int .i64 0,.int .i64 0,.int .i64 0,.string ⟨#[]⟩]):Value).cells (G-n))=cur at *
  have h1I:(1:Int)≤(n:Int):=by omega
  have hG0:¬ G=0:=by omega
  have HM:=af hGm
  clear hold hz0 hz1 hz2 hi hGm hGn h0
  go_enter Tryz.func107,Tryz.ntmps107
  go_wp2_with (at_builtin; refine Lib.wpList_append_run _ rfl _ _ _ _ rfl _ _ rfl rfl _ _ (ae hrz _) ?_)
  go_ret
  refine ⟨_,rfl,⟨G,.inr rfl⟩,World.ownsRow_made w.drew cur G (Nat.le_refl _) (ae HM) (ae hsz),((Below.refl _ _).drew).alloc (Nat.le_refl _) _⟩
def RowsEntry (w:World) (p:Nat) (R:List (Value×List Value)):Prop:=∀ j,j<R.length→w.cell? ⟨p,j,none⟩=some (R.getD j (.slice none 0 0,[])).1∧∃ A n c,(R.getD j (.slice none 0 0,[])).1 = .slice (some A) n c∧(R.getD j (.slice none 0 0,[])).2.length=n*8∧(∀ u∈(R.getD j (.slice none 0 0,[])).2,u.oneCell'=true)∧∀ W,Below w.heap.size w W→∀ k u,(R.getD j (.slice none 0 0,[])).2[k]?=some u→W.cell? (A.add k)=some u
def rowLenEntry (x:Value×List Value):Nat:=x.2.length/8
def rowsLenEntry (R:List (Value×List Value)):Nat:=(R.map rowLenEntry).sum
def rowsAllEntry (R:List (Value×List Value)):List Value:=R.flatMap Prod.snd
theorem rows_takeEntry (R:List (Value×List Value)) (k:Nat) (h:k<R.length):R.take (k+1)=R.take k++[R.getD k (.slice none 0 0,[])]:=by
 rw [List.take_succ_eq_append_getElem h]
 congr 2
 simp [List.getD,h]
theorem rowsLen_takeEntry (R:List (Value×List Value)) (k:Nat) (h:k<R.length):rowsLenEntry (R.take (k+1))=rowsLenEntry (R.take k)+rowLenEntry (R.getD k (.slice none 0 0,[])):=by
 rw [rows_takeEntry R k h]; simp [rowsLenEntry]
theorem rowsAll_takeEntry (R:List (Value×List Value)) (k:Nat) (h:k<R.length):rowsAllEntry (R.take (k+1))=rowsAllEntry (R.take k)++(R.getD k (.slice none 0 0,[])).2:=by
 rw [rows_takeEntry R k h]; simp [rowsAllEntry]
theorem rowsLen_leEntry (R:List (Value×List Value)) (k:Nat):rowsLenEntry (R.take k)≤rowsLenEntry R:=by
 have e0:∀ A B:List (Value×List Value),rowsLenEntry (A++B)=rowsLenEntry A+rowsLenEntry B:=fun A B=>by simp [rowsLenEntry]
 have e:=e0 (R.take k) (R.drop k)
 rw [List.take_append_drop] at e
 omega
theorem RowsEntry.later {w w':World} {p:Nat} {R:List (Value×List Value)} (h:RowsEntry w p R) (hb:Below w.heap.size w w'):RowsEntry w' p R:=by
 intro j hj
 obtain ⟨h1,A,n,c,h2,h3,h4,h5⟩:=h j hj
 exact ⟨(hb.cell (p:=⟨p,j,none⟩) (World.block_lt_of_cell? w ⟨p,j,none⟩ h1)).trans h1,A,n,c,h2,h3,h4,fun W hW=>h5 W (hb.trans (hW.mono hb.size))⟩
theorem RowsEntry.form {w:World} {p:Nat} {R:List (Value×List Value)} (h:RowsEntry w p R) (j:Nat) (hj:j<R.length):∃ A c,(R.getD j (.slice none 0 0,[])).1 = .slice (some A) (rowLenEntry (R.getD j (.slice none 0 0,[]))) c∧(R.getD j (.slice none 0 0,[])).2.length=rowLenEntry (R.getD j (.slice none 0 0,[]))*8∧(∀ u∈(R.getD j (.slice none 0 0,[])).2,u.oneCell'=true)∧∀ k u,(R.getD j (.slice none 0 0,[])).2[k]?=some u→w.cell? (A.add k)=some u:=by
 obtain ⟨_,A,n,c,h2,h3,h4,h5⟩:=h j hj
 have hn:rowLenEntry (R.getD j (.slice none 0 0,[]))=n:=by unfold rowLenEntry; rw [h3]; omega
 rw [hn]
 exact ⟨A,c,h2,h3,h4,h5 w (Below.refl _ _)⟩
set_option maxRecDepth 100000 in
set_option maxHeartbeats 1600000 in
theorem concatEntry (p m c:Nat) (R:List (Value×List Value)) (w:World) (hm:R.length=m) (h1:1≤m) (hm2:m≤1000) (h:RowsEntry w p R) (hl:rowsLenEntry R≤100000) :
  Calls Tryz.prog 71 #[.slice (some ⟨p,0,none⟩) m c] w fun e w'=>∃ v,e = .returned v∧w'.ownsRow w.heap.size 26 8 v (rowsLenEntry R) (rowsAllEntry R)∧Below w.heap.size w w':=by
 obtain ⟨i0,hi,hz0,hz1,hz2⟩:=info_parts grow_infoEntry
 have hmI:(m:Int)≤1000:=by omega
 have HM:=af (And.intro hm (And.intro h1 hm2))
 have HL:=af hl
 have H:=af h
 have hGr:=af (fun n hn=>growNilEntry n w hn)
 clear hm h1 hm2 hl h
 go_enter Tryz.func71,Tryz.ntmps71
 go_wp2_with fail
 go_loop [3,5,11] (fun s _ i=>∃ k:Nat,k≤m∧i = .int .i64 k∧s = .int .i64 (rowsLenEntry (R.take k):Nat)) (fun _ _ i=>m-(intOf i).toNat)
 case atStart=>exact ⟨0,Nat.zero_le _,rfl,rfl⟩
 case round=>
  obtain ⟨k,hk,rfl,rfl⟩:=hrel
  have HK:=af hk
  by_cases hlt:k<m
  ·
   have hR:=ae H k (by rw [(ae HM).1]; exact hlt)
   obtain ⟨A,c1,e,_⟩:=(ae H).form k (by rw [(ae HM).1]; exact hlt)
   have c0:=hR.1
   rw [e] at c0
   have hst:=af (rowsLen_takeEntry R k (by rw [(ae HM).1]; exact hlt))
   have hle:=rowsLen_leEntry R (k+1)
   have hle2:(rowsLenEntry (R.take k):Int)+(rowLenEntry (R.getD k (.slice none 0 0,[])):Int)≤100000:=by have:=ae hst; have:=ae HL; omega
   clear hR e hle hk
   generalize rowLenEntry (R.getD k (.slice none 0 0,[]))=q at *
   generalize rowsLenEntry (R.take k)=s at *
   go_wp2
   go_round
   case rel=>exact ⟨k+1,by have:=ae HK; omega,by go_num,by rw [ae hst]; go_num⟩
   case measure=>simp [intOf]; omega
  ·
   obtain rfl:k=m:=by omega
   have hta:R.take k=R:=List.take_of_length_le (by rw [(ae HM).1]; exact Nat.le_refl _)
   rw [hta]
   have hNI:(rowsLenEntry R:Int)≤100000:=by have:=ae HL; omega
   have HN:Hid (rowsLenEntry R≤100000):=by show _≤_; have:=ae HL; omega
   clear hta hk hlt
   generalize hN:rowsLenEntry R=N at *
   have HNe:=af hN
   clear hN
   go_wp2_with fail
   refine (ae hGr N (ae HN)).mono ?_
   rintro e x1 ⟨v,rfl,⟨cg,hv⟩,ho,hb⟩
   have hform:∃ a,v = .slice a 0 cg:=by
    rcases hv with hv | hv
    ·
     exact ⟨_,hv⟩
    ·
     exact ⟨_,hv⟩
   obtain ⟨va,rfl⟩:=hform
   clear hv
   go_wp2_with fail
   go_loopw [6,8,27] (fun s _ i wr=>∃ j:Nat,j≤k∧i = .int .i64 j∧wr.ownsRow w.heap.size 26 8 s (rowsLenEntry (R.take j)) (rowsAllEntry (R.take j))∧Below w.heap.size w wr) (fun _ _ i _=>k-(intOf i).toNat)
   case atStart=>exact ⟨0,Nat.zero_le _,rfl,ho,hb⟩
   case round=>
    obtain ⟨j,hj,rfl,hq,hbel⟩:=hrel
    clear ho hb
    have HJ:=af hj
    have hbs:=hbel.size
    by_cases hlt:j<k
    ·
     have hRw:=(ae H).later hbel
     have hR:=hRw j (by rw [(ae HM).1]; exact hlt)
     obtain ⟨A,c1,e,hsl,hone,hsrc⟩:=hRw.form j (by rw [(ae HM).1]; exact hlt)
     have c0:=hR.1
     rw [e] at c0
     have hst:=af (rowsLen_takeEntry R j (by rw [(ae HM).1]; exact hlt))
     have hsa:=af (rowsAll_takeEntry R j (by rw [(ae HM).1]; exact hlt))
     have hle:=rowsLen_leEntry R (j+1)
     have hbb:Hid (rowsLenEntry (R.take j)+rowLenEntry (R.getD j (.slice none 0 0,[]))≤maxLen∧(rowsLenEntry (R.take j)+rowLenEntry (R.getD j (.slice none 0 0,[])))*80≤140737488355328):=by
      have:=ae hst; have:=ae HNe; have:=ae HN
      show _∧_
      unfold maxLen
      omega
     have HX:=af (And.intro hsl (And.intro hsrc hone))
     clear hR e hle hj hRw hsrc hone hsl
     generalize rowLenEntry (R.getD j (.slice none 0 0,[]))=q at *
     generalize (R.getD j (.slice none 0 0,[])).2=xs at *
     go_wp2_with (at_builtin; refine wpList_append_own _ rfl _ _ 30 rfl w.heap.size 26 i0 (Value.agg #[.string ⟨#[]⟩,.int .i64 0,.int .i64 0,.int .i64 0,.int .i64 0,.int .i64 0,.int .i64 0,.string ⟨#[]⟩]) 8 80 Tryz.underlying30 hi hz0 hz1 hz2 rfl (by decide) _ _ _ rfl hq A q c1 xs rfl (ae HX).1 (ae HX).2.1 (ae HX).2.2 (ae hbb).1 (ae hbb).2 hbs ?_; intro v' x2 hown hgrow hnil)
     have hb2:Below w.heap.size w x2:=hbel.grown hgrow hbs (fun b h=>(World.ownsRow.lt hq b h).1)
     rw [←ae hst,←ae hsa] at hown
     clear hgrow hq hbel hnil
     go_wp2
     go_roundw
     case rel=>exact ⟨j+1,by have:=ae HJ; omega,by go_num,hown,hb2⟩
     case measure=>simp [intOf]; omega
    ·
     obtain rfl:j=k:=by omega
     have hta:R.take j=R:=List.take_of_length_le (by rw [(ae HM).1]; exact Nat.le_refl _)
     rw [hta,ae HNe] at hq
     have hqf:∃ a c,u6 = .slice a N c:=by
      rcases hq.2 with ⟨e,e0⟩ | ⟨g,cap,cur,e,_⟩
      ·
       subst e0; exact ⟨_,_,e⟩
      ·
       exact ⟨_,_,e⟩
     obtain ⟨qa,qc,rfl⟩:=hqf
     clear hta
     go_wp2
     go_ret
     exact ⟨_,rfl,by rw [ae HNe]; exact hq,hbel⟩
theorem eown_froz {w:World} {base g cap n:Nat} {l:List En} (hn:l.length=n) (h:dC w base (.slice (some ⟨g,0,none⟩) n cap) l) (i:Nat) (hi:i<n) :
  w.frozen? ⟨g,i*8,none⟩=false∧w.frozen? ⟨g,i*8+1,none⟩=false∧w.frozen? ⟨g,i*8+2,none⟩=false∧w.frozen? ⟨g,i*8+3,none⟩=false∧w.frozen? ⟨g,i*8+4,none⟩=false∧w.frozen? ⟨g,i*8+5,none⟩=false∧w.frozen? ⟨g,i*8+6,none⟩=false∧w.frozen? ⟨g,i*8+7,none⟩=false:=
 ⟨(aQ.at eV default hn h i 0 hi (by omega)).2,(aQ.at eV default hn h i 1 hi (by omega)).2,(aQ.at eV default hn h i 2 hi (by omega)).2,(aQ.at eV default hn h i 3 hi (by omega)).2,(aQ.at eV default hn h i 4 hi (by omega)).2,(aQ.at eV default hn h i 5 hi (by omega)).2,(aQ.at eV default hn h i 6 hi (by omega)).2,(aQ.at eV default hn h i 7 hi (by omega)).2⟩
theorem clash_comm (a b:List UInt8):bf a b=bf b a:=by
 unfold bf
 rw [Bool.or_comm (dQ b a)]
 congr 1
 rw [Bool.eq_iff_iff]
 simp only [beq_iff_eq]
 exact ⟨Eq.symm,Eq.symm⟩
theorem goes_comm {e f:En} (h:goes e f):goes f e:=by
 unfold goes at *; rw [clash_comm]; exact h
theorem set_split {l:List En} {k:Nat} (hk:k<l.length) (e:En):l.set k e=l.take k++e :: l.drop (k+1):=by rw [List.set_eq_take_append_cons_drop,if_pos hk]
theorem zip_set {l:List En} {k:Nat} {e:En} (h:aY l=true) (hk:k<l.length) (he:fe e=true) (hc:gk (l.eraseIdx k) e.n=false):aY (l.set k e)=true:=by
 have h0:=(rU _).1 (EH h k)
 have h6:=((rU l).1 h).2.2
 rw [List.eraseIdx_eq_take_drop_succ] at h0 hc
 have hc:=(ET _ _).1 hc
 refine (rU _).2 ⟨fun f hf=>?_,?_,by rw [List.length_set]; exact h6⟩
 ·
  rw [set_split hk] at hf
  simp only [List.mem_append,List.mem_cons] at hf
  rcases hf with hf | rfl | hf
  ·
   exact h0.1 f (List.mem_append.2 (.inl hf))
  ·
   exact he
  ·
   exact h0.1 f (List.mem_append.2 (.inr hf))
 ·
  rw [set_split hk,List.pairwise_middle (fun h=>goes_comm h),List.pairwise_cons]
  exact ⟨fun f hf=>goes_comm (hc f hf),h0.2.1⟩
theorem atN_name {l:List En} {x:ByteArray} {k:Nat} (h:atN l x=(k:Int)):k<l.length∧(l.getD k default).n.data.toList=x.data.toList:=by
 unfold atN at h
 split at h
 ·
  rename_i q hq
  obtain rfl:q=k:=by omega
  rw [List.findIdx?_eq_some_iff_getElem] at hq
  obtain ⟨h1,h2,_⟩:=hq
  exact ⟨h1,by simpa [List.getD,h1] using h2⟩
 ·
  omega
theorem any_same {l:List En} {x:ByteArray} {k:Nat} (h:aY l=true) (ha:atN l x=(k:Int)):gk (l.eraseIdx k) x=false:=by
 obtain ⟨hk,hn⟩:=atN_name ha
 have h2:=((rU l).1 h).2.1
 have e:l=l.take k++l.getD k default :: l.drop (k+1):=by
  have:=set_split hk (l.getD k default)
  rw [←this]
  refine (List.ext_getElem? fun i=>?_)
  rw [List.getElem?_set]
  split
  ·
   rename_i hi; subst hi; simp [List.getD,hk]
  ·
   rfl
 rw [e,List.pairwise_middle (fun h=>goes_comm h),List.pairwise_cons] at h2
 rw [List.eraseIdx_eq_take_drop_succ]
 refine (ET _ _).2 fun f hf=>?_
 have:=goes_comm (h2.1 f hf)
 unfold goes at this
 rw [hn] at this
 exact this
def movE (e:En) (x:ByteArray):En:={ e with n:=x }
def moveD (x y:ByteArray) (l:List En):Int×List En:=if gB y.data.toList then (if atN l x<0 then (2,[]) else if gk (l.eraseIdx (atN l x).toNat) y then (3,[]) else (0,l.set (atN l x).toNat (movE (l.getD (atN l x).toNat default) y))) else (1,[])
theorem at_nat {l:List En} {x:ByteArray} (h:¬ atN l x<0):∃ k:Nat,atN l x=(k:Int)∧(atN l x).toNat=k∧k<l.length:=by
 rcases Lm l x with h1 | ⟨k,hk,h1⟩
 ·
  omega
 ·
  exact ⟨k,h1,by omega,hk⟩
theorem mov_ent {e:En} {y:ByteArray} (h:fe e=true) (hy:gB y.data.toList=true):fe (movE e y)=true:=by
 unfold fe eZ at *
 simp only [Bool.and_eq_true] at h ⊢
 exact ⟨hy,h.2⟩
theorem move_ok {x y:ByteArray} {l:List En} (h:aY l=true) (h0:(moveD x y l).1=0):aY (moveD x y l).2=true:=by
 unfold moveD at h0 ⊢
 split
 ·
  rename_i he
  rw [if_pos he] at h0
  split
  ·
   rename_i hc; rw [if_pos hc] at h0; cases h0
  ·
   rename_i hc
   rw [if_neg hc] at h0
   obtain ⟨k,h1,h2,hk⟩:=at_nat hc
   rw [h2] at h0 ⊢
   split
   ·
    rename_i hn; rw [if_pos hn] at h0; cases h0
   ·
    rename_i hn
    exact zip_set h hk (mov_ent (Lw h hk) he) (by show gk _ y=false; simpa using hn)
 ·
  rename_i he; rw [if_neg he] at h0; cases h0
theorem own_take {W:World} {b g n c:Nat} {l:List En} (hn:l.length=n) (h:dC W b (.slice (some ⟨g,0,none⟩) n c) l) (k:Nat):∀ j u,((l.take k).flatMap bp)[j]?=some u→W.cell? ((⟨g,0,none⟩:Addr).add j)=some u:=fun j u hj=>by
 refine World.ownsRow.cells (aQ.own hn h) rfl j u ?_
 rw [qn l k,List.getElem?_append_left (List.getElem?_eq_some_iff.1 hj).1]; exact hj
theorem encs_oneE (l:List En):∀ u∈l.flatMap bp,u.oneCell'=true:=fun u hu=>by
 obtain ⟨e,_,he⟩:=List.mem_flatMap.1 hu
 exact eW e u he
theorem two_rows {w:World} {p:Nat} {A B:Addr} {n1 c1 n2 c2:Nat} {l1 l2:List En} (h1:l1.length=n1) (h2:l2.length=n2) (c0:w.cell? ⟨p,0,none⟩=some (.slice (some A) n1 c1)) (c1':w.cell? ⟨p,1,none⟩=some (.slice (some B) n2 c2))
  (a1:∀ W,Below w.heap.size w W→∀ k u,(l1.flatMap bp)[k]?=some u→W.cell? (A.add k)=some u) (a2:∀ W,Below w.heap.size w W→∀ k u,(l2.flatMap bp)[k]?=some u→W.cell? (B.add k)=some u) :
  RowsEntry w p [(.slice (some A) n1 c1,l1.flatMap bp),(.slice (some B) n2 c2,l2.flatMap bp)]:=by
 intro j hj
 have hj:j<2:=hj
 rcases (by omega:j=0∨j=1) with rfl | rfl
 ·
  exact ⟨c0,A,n1,c1,rfl,by show (l1.flatMap bp).length=_; rw [ez eV,h1],encs_oneE l1,a1⟩
 ·
  exact ⟨c1',B,n2,c2,rfl,by show (l2.flatMap bp).length=_; rw [ez eV,h2],encs_oneE l2,a2⟩
theorem two_len {A B:Value} {l1 l2:List En} : rowsLenEntry [(A,l1.flatMap bp),(B,l2.flatMap bp)]=l1.length+l2.length:=by
 simp only [rowsLenEntry,rowLenEntry,List.map_cons,List.map_nil,List.sum_cons,List.sum_nil,ez eV]
 omega
theorem two_all {A B:Value} {l1 l2:List En} : rowsAllEntry [(A,l1.flatMap bp),(B,l2.flatMap bp)]=(l1++l2).flatMap bp:=by
 simp [rowsAllEntry]
theorem move_bad {x y:ByteArray} {l:List En} (h:gB y.data.toList=false):moveD x y l=(1,[]):=by unfold moveD; rw [if_neg (by rw [h]; decide)]
theorem move_not {x y:ByteArray} {l:List En} (h:gB y.data.toList=true) (ha:atN l x = -1):moveD x y l=(2,[]):=by unfold moveD; rw [if_pos h,if_pos (by omega)]
theorem move_room {x y:ByteArray} {l:List En} {k:Nat} (hz:aY l=true) (h:gB y.data.toList=true) (ha:atN l x=(k:Int)) (hk:k<l.length):moveD x y l=if aH (l.eraseIdx k) (movE (l.getD k default) y)=0 then (0,l.set k (movE (l.getD k default) y)) else (aH (l.eraseIdx k) (movE (l.getD k default) y),[]):=by
 have hE:=mov_ent (Lw hz hk) h
 have h6:=(da hz).2
 have hl:¬ 6≤(l.eraseIdx k).length:=by rw [List.length_eraseIdx,if_pos hk]; omega
 have hr:aH (l.eraseIdx k) (movE (l.getD k default) y)=if gk (l.eraseIdx k) y then 3 else 0:=by
  unfold aH
  rw [if_pos hE,if_neg hl]; rfl
 unfold moveD
 rw [if_pos h,if_neg (by omega),ha,Int.toNat_natCast,hr]
 cases gk (l.eraseIdx k) y <;> rfl
set_option maxHeartbeats 6400000 in
theorem moveDeed_any (x y:ByteArray) (v:Value) (l:List En) (bt bn b:Nat) (m:Int) (w:World) (h:dC w b v l) (hz:aY l=true) (hb:b≤w.heap.size) (ht:w.cell? ⟨bt,0,none⟩=some (.string y)) (hx:w.cell? ⟨bn,0,none⟩=some (.string x)) (hy:y.size≤1048576) (hm:w.cell? ⟨2,0,none⟩=some (.int .i64 m)) :
  Calls Tryz.prog 70 #[v,.pointer (some ⟨bt,0,none⟩),.pointer (some ⟨bn,0,none⟩)] w (vn b w (moveD x y l)):=by
 have hmix:Tryz.prog.follows .mixedOrders=true:=by kernel_rfl
 obtain ⟨n,hn⟩:∃ n,l.length=n:=⟨_,rfl⟩
 obtain ⟨a,c,rfl,hc,_⟩:=h.formN hn
 have hnI:(n:Int)≤6:=by have:=(da hz).2; omega
 have CN:=af (qC y m w hy hm)
 have HO:=af h
 have Hn:=af hn
 have HB:=af hb
 have HZ:=af hz
 have HY:=af hy
 have CC:=af (fun W (hW:Below w.heap.size w W)=>And.intro ((hW.cell (p:=⟨bt,0,none⟩) (World.block_lt_of_cell? _ _ ht)).trans ht) (And.intro ((hW.cell (p:=⟨bn,0,none⟩) (World.block_lt_of_cell? _ _ hx)).trans hx) ((hW.cell (p:=⟨2,0,none⟩) (World.block_lt_of_cell? _ _ hm)).trans hm)))
 clear h hn hb hz hy hx hm
 go_enter Tryz.func70,Tryz.ntmps70
 go_wp2_with fail
 refine (ae CN).mono ?_
 rintro f x1 ⟨rfl,hb1⟩
 have HW1:=af hb1
 have HO1:=af ((ae HO).later hb1 (Nat.le_refl _))
 clear CN hb1 HO ht
 obtain ⟨E,hE⟩:∃ b,gB y.data.toList=b:=⟨_,rfl⟩
 have HE:=af hE
 rw [hE]
 clear hE
 cases E
 ·
  have HD:Hid ((moveD x y l).1=1):=by show _=_; rw [move_bad (ae HE)]
  have HBx:=af ((ae HW1).mono (ae HB))
  go_wp2
  go_ret2
  exact AJ (ae HD) (by decide) (ae HBx)
 ·
  have CF:=af (ut a c l n (ae Hn) x x1 (bq (ae Hn) (ae HO1)) (by omega))
  have q1:=(ae CC _ (ae HW1)).2.1
  go_wp2_with fail
  refine (ae CF).mono ?_
  rintro f x2 ⟨rfl,hb2⟩
  have HW2:=af (ag (ae HW1) hb2)
  have HO2:=af ((ae HO1).later hb2 (Nat.le_refl _))
  clear CF hb2 HO1 HW1 q1
  rcases Lm l x with hh | ⟨k,hk,hh⟩
  ·
   have HD:Hid ((moveD x y l).1=2):=by show _=_; rw [move_not (ae HE) hh]
   have HBx:=af ((ae HW2).mono (ae HB))
   rw [AP (by omega)]
   clear hh
   go_wp2
   go_ret2
   exact AJ (ae HD) (by decide) (ae HBx)
  ·
   have HD:=af (move_room (ae HZ) (ae HE) hh hk)
   rw [we (by omega),hh]
   have hkn:k<n:=by have:=ae Hn; omega
   have hkI:(k:Int)<(n:Int):=by omega
   have HKN:=af hkn
   obtain ⟨g,rfl⟩:=(ae HO2).somes (by omega)
   obtain ⟨d0,d1,d2,d3,d4,d5,d6,d7⟩:=uu (ae Hn) (ae HO2) k hkn
   have q1:=(ae CC _ (ae HW2)).1
   have hsz:=lK (ae HZ) k hk
   have HEl:=af (sO (ae Hn) hkn)
   obtain ⟨A,hA,hAt⟩:=He (b:=b) (g:=g) (ae Hn) hc k hkn
   have HA:=af hA
   have HAt:=af hAt
   have HTS:=af hsz
   have HXs:Hid (∀ i,i<k+(n-(k+1))→(((l.eraseIdx k).getD i default).n.size:Int)≤1048576):=fun i hi=>by
    have:=(lK (EH (ae HZ) k) i (by rw [ae HEl]; exact hi)).1; omega
   clear hh hk hsz hA hAt
   generalize l.getD k default=e at *
   have HWm:=af ((ae HW2).alloc (ae HW2).size (.cells #[.string y,.int .i64 e.y,.int .i64 e.mo,.int .i64 e.d,.int .i64 e.h,.int .i64 e.mi,.int .i64 e.s,.string e.t] 26))
   have HOm:=af ((ae HO2).later ((Below.refl _ _).alloc (Nat.le_refl _) (.cells #[.string y,.int .i64 e.y,.int .i64 e.mo,.int .i64 e.d,.int .i64 e.h,.int .i64 e.mi,.int .i64 e.s,.string e.t] 26)) (Nat.le_refl _))
   have PM:=af (az x2 #[.string y,.int .i64 e.y,.int .i64 e.mo,.int .i64 e.d,.int .i64 e.h,.int .i64 e.mi,.int .i64 e.s,.string e.t] 26)
   have k4:IntKind.i64.wrap ((k:Int)+1)=(k:Int)+1:=by simp only [IntKind.wrap,IntKind.bits,IntKind.signed]; simp; omega
   have hkc:k<c:=by omega
   have hcI:(n:Int)≤(c:Int):=by omega
   have q2:=(((Below.refl x2.heap.size x2).alloc (Nat.le_refl _) (.cells #[.string e.n,.int .i64 e.y,.int .i64 e.mo,.int .i64 e.d,.int .i64 e.h,.int .i64 e.mi,.int .i64 e.s,.string e.t] 26)).cell (p:=⟨bt,0,none⟩) (World.block_lt_of_cell? _ _ q1)).trans q1
   have hne:¬ x2.heap.size=bt:=by have:=World.block_lt_of_cell? _ _ q1; simp at this; omega
   go_wp2_with fail
   refine wp_region_held_drew (S:=fun _=>True) hmix trivial (fun hS=>?_)
   refine wpAnyH_take (i:=0) (v:=.slice (some ⟨g,0,none⟩) n c) rfl (by kernel_rfl) (by kernel_rfl) (by kernel_rfl) (fun _ _ _ h=>h) (Or.inl ⟨by rfl,fun W hSw=>by go_simp⟩) hS ?_
   refine wpAnyH_take (i:=1) (v:=.int .i64 (k:Nat)) rfl (by kernel_rfl) (by kernel_rfl) (by kernel_rfl) (fun _ _ _ h=>h) (Or.inl ⟨by rfl,fun W hSw=>by go_simp⟩) hS ?_
   refine wpAnyH_take (i:=2) (v:=.slice (some ⟨g,0,none⟩) k c) rfl (by kernel_rfl) (by kernel_rfl) (by kernel_rfl) (fun _ _ _ h=>h) (Or.inl ⟨by rfl,fun W hSw=>by go_simp <;> (intro h; omega)⟩) hS ?_
   refine wpAnyH_take (i:=3) (v:=.slice (some ⟨g,0,none⟩) n c) rfl (by kernel_rfl) (by kernel_rfl) (by kernel_rfl) (fun _ _ _ h=>h) (Or.inl ⟨by rfl,fun W hSw=>by go_simp⟩) hS ?_
   refine wpAnyH_take (i:=4) (v:=.int .i64 (k:Nat)) rfl (by kernel_rfl) (by kernel_rfl) (by kernel_rfl) (fun _ _ _ h=>h) (Or.inl ⟨by rfl,fun W hSw=>by go_simp⟩) hS ?_
   refine wpAnyH_take (i:=5) (v:=.int .i64 ((k:Int)+1)) rfl (by kernel_rfl) (by kernel_rfl) (by kernel_rfl) (fun _ _ _ h=>h) (Or.inl ⟨by rfl,fun W hSw=>by go_simp⟩) hS ?_
   refine wpAnyH_take (i:=6) (v:=.slice (some A) (n-(k+1)) (c-(k+1))) rfl (by kernel_rfl) (by kernel_rfl) (by kernel_rfl) (fun _ _ _ h=>h) (Or.inl ⟨by rfl,fun W hSw=>by go_simp; first | (rw [if_pos (by omega),ae HA]) | (rw [ae HA]) | skip⟩) hS ?_
   have HWd:=af (ae HWm).drew
   have HOd:=af ((ae HOm).later ((Below.refl _ _).drew) (Nat.le_refl _))
   have PMd:=af (ae PM).drew
   clear HWm HOm PM d0 d1 d2 d3 d4 d5 d6 d7 q1 q2 HO2 HW2
   obtain ⟨pm,hpm⟩:∃ z,x2.heap.size=z:=⟨_,rfl⟩
   rw [hpm] at PMd
   rw [hpm]
   generalize (x2.alloc (.cells #[.string y,.int .i64 e.y,.int .i64 e.mo,.int .i64 e.d,.int .i64 e.h,.int .i64 e.mi,.int .i64 e.s,.string e.t] 26)).drew=W5 at *
   refine wpAnyH_ready (rs:=[7]) (by kernel_rfl) (by simp) ?_
   refine AllReadyH.cons rfl (fun K1 hK1=>?_) (AllReadyH.nil)
   go_simp
   have hA6:=(Below.refl W5.heap.size W5).alloc (Nat.le_refl _) (.cells #[.slice (some ⟨g,0,none⟩) k c,.slice (some A) (n-(k+1)) (c-(k+1))] 30)
   have HW6:=af (ag (ae HWd) hA6)
   have HO6:=af ((ae HOd).later hA6 (Nat.le_refl _))
   have PM6:=af ((ae PMd).later hA6 (ae PMd).1)
   have HC6:=af (az W5 #[.slice (some ⟨g,0,none⟩) k c,.slice (some A) (n-(k+1)) (c-(k+1))] 30)
   refine Shut.out hK1 _ _ trivial (fun _=>?_)
   clear hK1 K1 hA6 HWd HOd PMd
   obtain ⟨pb,hpb⟩:∃ z,W5.heap.size=z:=⟨_,rfl⟩
   obtain ⟨W6,hW6⟩:∃ z,W5.alloc (.cells #[.slice (some ⟨g,0,none⟩) k c,.slice (some A) (n-(k+1)) (c-(k+1))] 30)=z:=⟨_,rfl⟩
   rw [hW6] at HW6 HO6 PM6
   rw [hpb,hW6] at HC6
   rw [hpb,hW6]
   clear hpb hW6
   have hl1:(l.take k).length=k:=by rw [List.length_take,ae Hn]; omega
   have hl2:(l.drop (k+1)).length=n-(k+1):=by rw [List.length_drop,ae Hn]
   have hR:=two_rows (c1:=c) (c2:=c-(k+1)) hl1 hl2 ((ae HC6).cell 0 _ rfl) ((ae HC6).cell 1 _ rfl) (fun W hW=>own_take (ae Hn) ((ae HO6).later hW (Nat.le_refl _)) k) (fun W hW=>ae HAt W ((ae HO6).later hW (Nat.le_refl _)))
   have CX:=af (concatEntry pb 2 2 _ W6 rfl (by omega) (by omega) hR (by rw [two_len,hl1,hl2]; omega))
   rw [two_len,two_all,hl1,hl2,←List.eraseIdx_eq_take_drop_succ] at CX
   clear hR hl1 hl2 HC6
   refine wpAnyH_ready (rs:=[8]) (by kernel_rfl) (by simp) ?_
   refine AllReadyH.cons rfl (fun K1 hK1=>?_) (AllReadyH.nil)
   go_simp
   go_at_call 71
   refine (ae CX).mono ?_
   rintro f W7 ⟨v7,rfl,ho7,hb7⟩
   have HV7:Hid (dC W7 W6.heap.size v7 (l.eraseIdx k)):=by show World.ownsRow _ _ _ _ _ (l.eraseIdx k).length _; rw [ae HEl]; exact ho7
   have HW7:=af (ag (ae HW6) hb7)
   have HO7:=af ((ae HO6).later hb7 (Nat.le_refl _))
   have PM7:=af ((ae PM6).later hb7 (ae PM6).1)
   refine Shut.out hK1 _ _ trivial (fun _=>?_)
   clear hK1 K1 CX hb7 ho7 HW6 HO6 PM6
   obtain ⟨a7,c7,rfl,_,_⟩:=aQ.formN (ae HEl) (ae HV7)
   refine wpAnyH_ready (rs:=[9]) (by kernel_rfl) (by simp) ?_
   refine AllReadyH.cons rfl (fun K1 hK1=>?_) (AllReadyH.nil)
   go_simp
   refine Shut.out hK1 _ _ trivial (fun _=>?_)
   clear hK1 K1
   refine wpAnyH_done (by kernel_rfl) ?_ _
   have CR:=af (kU a7 c7 (l.eraseIdx k) (k+(n-(k+1))) (ae HEl) (movE e y) m W7 (bq (ae HEl) (ae HV7)) (by omega) (ae HXs) (ae HY) (ae HTS).2 (ae CC _ (ae HW7)).2.2)
   have pA:=(ae PM7).cells (n:=8) rfl
   go_wp2_with fail
   refine (ae CR).mono ?_
   rintro f W8 ⟨rfl,hb8⟩
   have HW8:=af (ag (ae HW7) hb8)
   have HO8:=af ((ae HO7).later hb8 (Nat.le_refl _))
   have PM8:=af ((ae PM7).later hb8 (ae PM7).1)
   have HBx:=af ((ae HW8).mono (ae HB))
   clear hb8 CR pA PM7 HO7 HW7 HV7
   by_cases hc0:aH (l.eraseIdx k) (movE e y)=0
   ·
    rw [show cH (aH (l.eraseIdx k) (movE e y)) = .nilIface by rw [hc0]; rfl]
    have HD2:Hid (moveD x y l=(0,l.set k (movE e y))):=by show _=_; rw [ae HD,if_pos hc0]
    obtain ⟨d0,d1,d2,d3,d4,d5,d6,d7⟩:=uu (ae Hn) (ae HO8) k (ae HKN)
    obtain ⟨f0,f1,f2,f3,f4,f5,f6,f7⟩:=eown_froz (ae Hn) (ae HO8) k (ae HKN)
    have HP:=af (aQ.put eV (ae Hn) (ae HO8) k (ae HKN) (movE e y))
    have HB9:=af (pZ (ae HBx) (ae HO8).below.1 (bp (movE e y)) (k*8))
    have pA:=(ae PM8).cells (n:=8) rfl
    clear hc0 HD
    generalize l.getD k default=y0 at *
    go_wp2
    go_ret2
    refine ⟨⟨.slice (some ⟨g,0,none⟩) n c,?_,⟨_,_,_,rfl⟩,fun _=>?_⟩,ae HB9⟩
    ·
     rw [ae HD2]; rfl
    ·
     rw [ae HD2]; exact ae HP
   ·
    have HD2:Hid ((moveD x y l).1=aH (l.eraseIdx k) (movE e y)):=by show _=_; rw [ae HD,if_neg hc0]
    rw [show cH (aH (l.eraseIdx k) (movE e y)) = .iface 92 (.agg #[.int .i64 (aH (l.eraseIdx k) (movE e y))]) by unfold cH; rw [if_neg hc0]]
    have HC0:=af hc0
    generalize aH (l.eraseIdx k) (movE e y)=rc at *
    clear hc0
    go_wp2
    go_ret2
    exact AJ (ae HD2) (ae HC0) (ae HBx)
set_option maxHeartbeats 3200000 in
theorem moveDone_any (s:ByteArray) (d:List En→Int×List En) (bt bn:Nat) (m:Int) (w:World) (hs:s.size≤1048576) (hm:w.cell? ⟨2,0,none⟩=some (.int .i64 m)) (hg:iq w) (hO:bY w)
  (hd:∀ l,aY l=true→(d l).1=0→aY (d l).2=true)
  (hD:∀ W v l,dp s=some l→Below w.heap.size w W→dC W w.heap.size v l→Calls Tryz.prog 70 #[v,.pointer (some ⟨bt,0,none⟩),.pointer (some ⟨bn,0,none⟩)] W (vn w.heap.size W (d l))) :
  Calls Tryz.prog 33 #[.string s,.func (.func 70) #[] #[.pointer (some ⟨bt,0,none⟩),.pointer (some ⟨bn,0,none⟩)]] w fun f w'=>f = .returned (edR s d)∧Below w.heap.size w w':=by
 have C:=af (dH s m w hs hm hg hO)
 have HM:=af hm
 have hmb:=af (World.block_lt_of_cell? _ _ hm)
 have CM:=af (fun W (hb:Below w.heap.size w W)=>(hb.cell (p:=⟨2,0,none⟩) (ae hmb)).trans (ae HM))
 have HG:=af (fun W (hb:Below w.heap.size w W)=>hg.later hb)
 have HOr:=af (fun W (hb:Below w.heap.size w W)=>hO.later hb)
 have HD:=af hD
 have Hd:=af hd
 have HS:=af hs
 clear hs hm hg hO hd hD
 go_enter Tryz.func33,Tryz.ntmps33
 go_wp2_with fail
 refine (ae C).mono ?_
 rintro f x1 ⟨⟨v,rfl,hown⟩,hb1⟩
 have HB1:=af hb1
 clear C
 rcases hz:dp s with _ | l
 ·
  have HE:=af (AL hz d)
  clear hz hown hb1
  go_wp2
  go_ret2
  exact ⟨by rw [ae HE]; rfl,ae HB1⟩
 ·
  rw [hz] at hown
  have CD:=af (ae HD x1 v l hz hb1 hown)
  have HZ:=af hz
  clear hz hown hb1 HD
  go_wp2_with fail
  refine (ae CD).mono ?_
  rintro f x2 ⟨⟨v2,rfl,⟨a,n,c,rfl⟩,hv2⟩,hb2⟩
  have HB2:=af ((ae HB1).trans hb2)
  have CC:=af (iG (d l).1 x2 (ae HG _ (ae HB2)))
  have HV:=af hv2
  clear hb2 hv2 CD
  obtain ⟨q,hq⟩:∃ q,d l=q:=⟨_,rfl⟩
  have Hq:=af hq
  rw [hq] at CC HV
  rw [hq]
  clear hq
  obtain ⟨k,r⟩:=q
  simp only at CC HV
  simp only
  obtain ⟨FV,hFV⟩:∃ x,cH k=x:=⟨_,rfl⟩
  rw [hFV] at CC
  rw [hFV]
  clear hFV
  go_wp2_with fail
  refine (ae CC).mono ?_
  rintro f x3 ⟨rfl,hb3⟩
  have HB3:=af (ag (ae HB2) hb3)
  have HB23:=af hb3
  clear hb3 CC
  by_cases hk:k=0
  ·
   subst hk
   have hzb:aY r=true:=by have:=ae Hd l (nJ (ae HZ)) (by rw [ae Hq]); rw [ae Hq] at this; exact this
   have hr:dC x2 w.heap.size (.slice a n c) r:=ae HV rfl
   obtain ⟨N,hN⟩:∃ n,r.length=n:=⟨_,rfl⟩
   obtain ⟨a',c',e',hc',_⟩:=hr.formN hN
   cases e'
   have hr3:=hr.later (ae HB23) (Nat.le_refl _)
   have h6:=(da hzb).2
   have CP:=af (bB a c r n hN m x3 (bq hN hr3) (by omega) (by omega) (fun i hi=>lK hzb i (by omega)) (ae CM _ (ae HB3)) (ae HG _ (ae HB3)) (ae HOr _ (ae HB3)))
   have HE:=af (nU (ae HZ) (ae Hq))
   clear hzb hr hr3 h6 HV HB23 HB2
   go_wp2_with fail
   refine (ae CP).mono ?_
   rintro f x4 ⟨rfl,hb4⟩
   have HB4:=af (ag (ae HB3) hb4)
   clear hb4 CP
   go_wp2
   go_ret2
   exact ⟨by rw [ae HE]; rfl,ae HB4⟩
  ·
   have HE:=af (vV (ae HZ) (ae Hq) hk)
   have CK:=af (fun W=>jC s W (by have:=ae HS; omega))
   have hd:decide (k=0)=false:=decide_eq_false hk
   go_wp2_with fail
   refine (ae CK _).mono ?_
   rintro f x4 ⟨rfl,hb4⟩
   have HB4:=af (ag (ae HB3) hb4)
   clear hb4 CK
   go_wp2
   go_ret2
   exact ⟨by rw [ae HE]; rfl,ae HB4⟩
theorem editMove_any (x y:ByteArray) (w:World) :
  Calls Tryz.prog 42 #[.string x,.string y] w fun f w'=>f = .returned (.func (.func 70) #[] #[.pointer (some ⟨w.heap.size+1,0,none⟩),.pointer (some ⟨w.heap.size,0,none⟩)])∧w'=(w.alloc (.cells #[.string x] 9)).alloc (.cells #[.string y] 9):=by
 go_enter Tryz.func42,Tryz.ntmps42
 go_wp2
 go_ret
 exact ⟨rfl,rfl⟩
set_option maxHeartbeats 1600000 in
theorem implZipMove_any (s x y:ByteArray) (m:Int) (w:World) (hs:s.size≤1048576) (hy:y.size≤1048576) (hm:w.cell? ⟨2,0,none⟩=some (.int .i64 m)) (hg:iq w) (hO:bY w) :
  Calls Tryz.prog 20 #[.string s,.string x,.string y] w fun f w'=>f = .returned (edR s (moveD x y))∧Below w.heap.size w w':=by
 have hA1:=(Below.refl w.heap.size w).alloc (Nat.le_refl _) (.cells #[.string x] 9)
 have hA:=af (hA1.alloc hA1.size (.cells #[.string y] 9))
 have hx:((w.alloc (.cells #[.string x] 9)).alloc (.cells #[.string y] 9)).cell? ⟨w.heap.size,0,none⟩=some (.string x):=((az w #[.string x] 9).later ((Below.refl _ _).alloc (Nat.le_refl _) _) (az w #[.string x] 9).1).cell 0 _ rfl
 have hy2:((w.alloc (.cells #[.string x] 9)).alloc (.cells #[.string y] 9)).cell? ⟨w.heap.size+1,0,none⟩=some (.string y):=by
  have:=(az (w.alloc (.cells #[.string x] 9)) #[.string y] 9).cell 0 _ rfl
  rw [show (w.alloc (.cells #[.string x] 9)).heap.size=w.heap.size+1 by simp] at this
  exact this
 have CD:=af (moveDone_any s (moveD x y) (w.heap.size+1) w.heap.size m _ hs (((ae hA).cell (p:=⟨2,0,none⟩) (World.block_lt_of_cell? _ _ hm)).trans hm) (hg.later (ae hA)) (hO.later (ae hA)) (fun _ h h0=>move_ok h h0)
   (fun W v l hz hb2 ho=>moveDeed_any x y v l (w.heap.size+1) w.heap.size _ m _ ho (nJ hz) hb2.size ((hb2.cell (p:=⟨w.heap.size+1,0,none⟩) (World.block_lt_of_cell? _ _ hy2)).trans hy2) ((hb2.cell (p:=⟨w.heap.size,0,none⟩) (World.block_lt_of_cell? _ _ hx)).trans hx) hy ((((ae hA).trans (hb2.mono (ae hA).size)).cell (p:=⟨2,0,none⟩) (World.block_lt_of_cell? _ _ hm)).trans hm)))
 clear hs hm hg hO hx hy2 hA1 hy
 go_enter Tryz.func20,Tryz.ntmps20
 go_wp2_with fail
 refine (editMove_any x y _).mono ?_
 rintro f x1 ⟨rfl,hx1⟩
 subst hx1
 go_wp2_with fail
 refine (ae CD).mono ?_
 rintro f x2 ⟨rfl,hb2⟩
 have HB2:=af (ag (ae hA) hb2)
 clear hb2 CD hA
 obtain ⟨t,k,hE⟩:=uo s (moveD x y)
 have HE:=af hE
 rw [hE]
 clear hE
 go_wp2
 go_ret2
 exact ⟨by rw [ae HE]; rfl,ae HB2⟩
theorem at_own {l:List En} (h:aY l=true) {i:Nat} (hi:i<l.length):atN l (l.getD i default).n=(i:Int):=by
 simp only [aY,Bool.and_eq_true,decide_eq_true_eq,List.all_eq_true] at h
 exact ((lv l i).mp (h.1 i (List.mem_range.mpr hi))).2.1
theorem move_same {l:List En} (h:aY l=true) {i k:Nat} (hi:i<l.length) (hk:k<l.length):edR (bz l) (moveD (l.getD i default).n (l.getD k default).n) = .tuple #[.string (bz l),.int .i64 (if i=k then 0 else 3)]:=by
 have hn:gB (l.getD k default).n.data.toList=true:=by
  have:=Lw h hk
  unfold fe eZ at this
  simp only [Bool.and_eq_true] at this
  exact this.1
 have hm:=move_room h hn (at_own h hi) hi
 have hE:=mov_ent (Lw h hi) hn
 by_cases hik:i=k
 ·
  subst hik
  have e0:movE (l.getD i default) (l.getD i default).n=l.getD i default:=rfl
  have ha:=any_same h (at_own h hi)
  have hr:aH (l.eraseIdx i) (l.getD i default)=0:=by
   unfold aH
   rw [if_pos (Lw h hi),ha,if_neg (by decide),if_neg (by rw [List.length_eraseIdx,if_pos hi]; have:=(da h).2; omega)]
  rw [e0,if_pos hr] at hm
  have es:l.set i (l.getD i default)=l:=by
   refine (List.ext_getElem? fun j=>?_)
   rw [List.getElem?_set]
   split
   ·
    rename_i hj; subst hj; simp [List.getD,hi]
   ·
    rfl
  rw [es] at hm
  rw [nU (ea h) hm,if_pos rfl]
 ·
  have hmem:l.getD k default∈l.eraseIdx i:=by
   rw [List.mem_eraseIdx_iff_getElem]
   exact ⟨k,hk,fun e=>hik e.symm,by simp [List.getD,hk]⟩
  have ha:gk (l.eraseIdx i) (l.getD k default).n=true:=by
   unfold gk
   rw [List.any_eq_true]
   exact ⟨_,hmem,yW _⟩
  have hr:aH (l.eraseIdx i) (movE (l.getD i default) (l.getD k default).n)=3:=by
   unfold aH
   rw [if_pos hE]
   show (if gk (l.eraseIdx i) (l.getD k default).n=true then (3:Int) else _)=3
   rw [if_pos ha]
  rw [hr,if_neg (by decide)] at hm
  rw [vV (ea h) hm (by decide),if_neg hik]
set_option maxHeartbeats 3200000 in
theorem fnZipMoveSame_walk (a:Option Addr) (len cap:Nat) (zs:List Int) (m:Int) (w:World) (w0:pU .u8 w a len cap zs) (hm:w.cell? ⟨2,0,none⟩=some (.int .i64 m)) (hg:iq w) (hO:bY w) :
  Calls Tryz.prog 7 #[.slice a len cap] w fun e w'=>e = .returned (.bool true)∧Below w.heap.size w w':=by
 obtain ⟨⟨z,hsrc⟩,hc,hlen⟩:=rI w0
 have HDr:=af (fR a len cap z w hsrc hc hlen)
 have CW:=af (fun W (hb:Below w.heap.size w W)=>And.intro ((hb.cell (p:=⟨2,0,none⟩) (World.block_lt_of_cell? _ _ hm)).trans hm) (And.intro (hg.later hb) (hO.later hb)))
 unfold maxLen at hlen
 clear w0 hsrc hm hg hO
 by_cases hl:(len:Int)≤1048576
 ·
  go_enter Tryz.func7,Tryz.ntmps7
  go_wp2_with fail
  refine (ae HDr).mono ?_
  rintro e w1 ⟨⟨v,l,rfl,ho,h7,hT,hNm⟩,hb1⟩
  obtain ⟨n,hn⟩:∃ n,l.length=n:=⟨_,rfl⟩
  obtain ⟨ga,tc,rfl,hcap,_⟩:=aQ.formN hn ho
  have HN:=af hn
  have HOw:=af ho
  have HNm:=af hNm
  have HB1:=af hb1
  have HT:=af (pM hn hT)
  have hnI:(n:Int)≤7:=by omega
  have hcI:(n:Int)≤(tc:Int):=by omega
  have CI:=af (dY ga tc l n hn m w1 (bq hn ho) (by omega) hcI (ae HT) (ae CW w1 hb1).1 (ae CW w1 hb1).2.1)
  have CS:=af (fun W (hW:Below w1.heap.size w1 W)=>fV ga tc l n hn W (bq hn (ho.later hW (Nat.le_refl _))) (by omega) (ae HT))
  have CP:=af (fun W (hW:Below w1.heap.size w1 W)=>bB ga tc l n hn m W (bq hn (ho.later hW (Nat.le_refl _))) (by omega) hcI (ae HT) (ae CW W (ag (ae HB1) hW)).1 (ae CW W (ag (ae HB1) hW)).2.1 (ae CW W (ag (ae HB1) hW)).2.2)
  clear ho hb1 hT h7 hn HDr hNm hlen hc
  generalize hzb:aY l=zb at *
  go_wp2_with fail
  refine (ae CI).mono ?_
  rintro e w2 ⟨rfl,hb2⟩
  have HB2:=af hb2
  clear hb2 CI
  go_wp2_with fail
  refine (ae CS w2 (ae HB2)).mono ?_
  rintro e w3 ⟨rfl,hb3⟩
  have HB3:=af (ag (ae HB2) hb3)
  clear hb3 HB2
  cases zb
  ·
   go_wp2_with fail
   refine (ae CS w3 (ae HB3)).mono ?_
   rintro e w4 ⟨rfl,hb4⟩
   have HB4:=af (ag (ae HB1) (ag (ae HB3) hb4))
   clear hb4
   go_wp2
   go_ret
   exact ⟨rfl,ae HB4⟩
  ·
   have HZ:=af hzb
   clear hzb
   go_wp2_with fail
   refine (ae CP w3 (ae HB3)).mono ?_
   rintro e w4 ⟨rfl,hb4⟩
   have HB4:=af (ag (ae HB3) hb4)
   clear hb4 HB3 CS CP
   have HSs:=af (io l)
   have hmix:Tryz.prog.follows .mixedOrders=true:=by kernel_rfl
   have HMv:=af (fun (i k:Nat) (hi:i<n) (hk:k<n)=>move_same (ae HZ) (i:=i) (k:=k) (by rw [ae HN]; exact hi) (by rw [ae HN]; exact hk))
   have HE:=af (fun k (hk:k<n)=>rV (ae HZ) k (by rw [ae HN]; exact hk))
   have C1:=af (fun (x y:ByteArray) (hy:y.size≤1048576) (W:World) (hW:Below w1.heap.size w1 W)=>implZipMove_any (bz l) x y m W (by have:=ae HSs; omega) hy (ae CW W (ag (ae HB1) hW)).1 (ae CW W (ag (ae HB1) hW)).2.1 (ae CW W (ag (ae HB1) hW)).2.2)
   obtain ⟨S,hS⟩:∃ z,bz l=z:=⟨_,rfl⟩
   rw [hS] at HMv C1 ⊢
   clear hS
   go_wp2_with fail
   go_loopw [6,7,8,9] (fun i _ _ _ wr=>∃ j:Nat,j≤n∧i = .int .i64 j∧Below w1.heap.size w1 wr) (fun i _ _ _ _=>n-(intOf i).toNat)
   case atStart=>exact ⟨0,Nat.zero_le _,rfl,ae HB4⟩
   case round=>
    obtain ⟨j,hj,rfl,hbr⟩:=hrel
    have HBr:=af hbr
    clear hbr HB4
    by_cases hlt:j<n
    ·
     have hltI:(j:Int)<(n:Int):=by omega
     have HJ:=af hlt
     obtain ⟨g,rfl⟩:=aQ.somes (ae HOw) (by rw [ae HN]; omega)
     clear hlt hj
     go_wp2_with fail
     go_loopw [7,8,9] (fun i _ _ wr=>∃ k:Nat,k≤n∧i = .int .i64 k∧Below w1.heap.size w1 wr) (fun i _ _ _=>n-(intOf i).toNat)
     case atStart=>exact ⟨0,Nat.zero_le _,rfl,ae HBr⟩
     case round=>
      obtain ⟨k,hk,rfl,hbr⟩:=hrel
      have HB5:=af hbr
      clear hbr HBr
      by_cases hlk:k<n
      ·
       have hlkI:(k:Int)<(n:Int):=by omega
       have HK:=af hlk
       have c0:=(uu (ae HN) ((ae HOw).later (ae HB5) (Nat.le_refl _)) j (ae HJ)).1
       have d0:=(uu (ae HN) ((ae HOw).later (ae HB5) (Nat.le_refl _)) k hlk).1
       have CM:=af (ae C1 (l.getD j default).n (l.getD k default).n (by have:=(ae HE k hlk).1; omega))
       rw [ae HMv j k (ae HJ) hlk] at CM
       have q0:=cell_regrown c0
       have q1:=cell_regrown d0
       have cM:=fun d os=>Calls.regrown_of (w:=wr) (d:=d) (os:=os) (ae CM _ (ag (ae HB5) (below_regrown wr d os)))
       clear hk
       generalize (l.getD j default).n=nj at *
       generalize (l.getD k default).n=nk at *
       have hjk:((j:Int) == (k:Int))=decide (j=k):=by
        by_cases e:j=k
        ·
         subst e; simp
        ·
         rw [decide_eq_false e]; exact beq_eq_false_iff_ne.2 (by omega)
       by_cases e:j=k
       all_goals
        first | rw [if_pos e] at cM | rw [if_neg e] at cM
        first | rw [decide_eq_true e] at hjk | rw [decide_eq_false e] at hjk
        clear e
        go_wp2_with fail
        refine wp_region_quiet_below hmix (by kernel_rfl) ?_
        repeat (quiet_step (exact cM _ _))
        refine wpQuiet_nil ?_
        intro zw hw'
        obtain ⟨⟨dq,osq⟩,hw2⟩:=hw'
        have HZ2:=below_regrown wr dq osq
        rw [←hw2] at HZ2
        have BZ:=af (ag (ae HB5) HZ2)
        clear hw2 HZ2 q0 q1 cM c0 d0
        go_wp2_with fail
        go_roundw
        case rel=>exact ⟨k+1,by have:=ae HK; omega,by go_num,ae BZ⟩
        case measure=>have:=ae HK; simp [intOf]; omega
      ·
       have hlkI:¬ (k:Int)<(n:Int):=by omega
       go_wp2_with fail
       go_roundw
       case rel=>exact ⟨j+1,by have:=ae HJ; omega,by go_num,ae HB5⟩
       case measure=>have:=ae HJ; simp [intOf]; omega
    ·
     have hltI:¬ (j:Int)<(n:Int):=by omega
     have HB5:=af (ag (ae HB1) (ae HBr))
     go_wp2
     go_ret
     exact ⟨rfl,ae HB5⟩
 ·
  go_enter Tryz.func7,Tryz.ntmps7
  go_wp2
  go_ret
  exact ⟨rfl,Below.refl _ _⟩
end
end Go.Proofs.YtfhdadkcophoaaaGreatDoor
namespace Go.Proofs.YtfhdadkcophoaaaGreatDoor
namespace fnZipMoveSameDone
open Go.ChangeShapes Go.WideShapes Go.ChangeAt Go.RowKit
open Go.ChangeMaps (open_string shut_string)
set_option linter.unusedVariables false

theorem own : ownKnob Tryz.prog.godebug = none := by kernel_rfl
theorem laidOut : laidOutB Tryz.prog = true := by kernel_rfl


set_option maxRecDepth 100000 in
theorem lifted (os : Os) (started : os.Started) (H : Type) (enc : TypeId × Value → H) :
    ReturnsInHanded {} Tryz.checked os 7 .any (fun w args => (Rows.fnZipMoveSameSpec.pre enc Tryz.prog Tryz.f7 Rows.fnZipMoveSameRow.domain false w args ∧ laidMetH Tryz.prog Rows.fnZipMoveSameRow.laid w) ∧ sizedMet enc Tryz.prog Tryz.f7 (OpenSpec.ofChange Rows.fnZipMoveSameSpec) false w args)
      (Rows.fnZipMoveSameSpec.post enc Tryz.prog Tryz.f7 false true false false) := by
  refine py (C := Tryz.checked) own started (by kernel_rfl) Tryz.func7
    (ChangeSpec.witness_shaped (enc := enc) (C := Tryz.checked) (os := os) (X := fun w _ => laidMetH Tryz.prog Rows.fnZipMoveSameRow.laid w) false ((handW os).layVars Tryz.prog [("unicode/utf8.acceptRanges", Rows.laid_unicode_utf8_acceptRanges), ("loop.example/corbel/impl.lenOrder", Rows.laid_loop_example_corbel_impl_lenOrder), ("unicode/utf8.first", Rows.laid_unicode_utf8_first)]) #[.slice none 0 0] 8 (World.layVars_os _ _ _)
      (World.shaped_of_ZipB (by kernel_rfl) (by kernel_rfl)) (by kernel_rfl) (by kernel_rfl) (by kernel_rfl)
      (laidMetH_of_parts (show laidMet Tryz.prog [("unicode/utf8.acceptRanges", Rows.laid_unicode_utf8_acceptRanges), ("loop.example/corbel/impl.lenOrder", Rows.laid_loop_example_corbel_impl_lenOrder), ("unicode/utf8.first", Rows.laid_unicode_utf8_first)] _ from uK _ (by kernel_rfl) (by kernel_rfl)) (by kernel_rfl))) ?_
  intro W base args ds gs before hval0 hW hsh hL
  have hval : ∀ (j : Nat) t v, Tryz.f7.params[j]? = some t → args[j]? = some v → Value.okWide Tryz.prog W .any base t v := hval0
  have hW' := hW
  obtain ⟨p, q, hA0, hV, rfl, hfz, hnd⟩ := hW
  have hA : DataW.TrodAll enc Tryz.prog W 0 (fun _ => true) true Tryz.f7.params.toList args.toList ds p := hA0
  rw [Tryz.params7] at hA hval
  obtain ⟨v0, vs0, d0, ds0, p0, q0, hargs, rfl, rfl, h0, r0⟩ := trodAll_cons hA
  obtain ⟨rfl, rfl, rfl⟩ := trodAll_nil r0
  obtain rfl : args = #[v0] := by cases args; simp_all
  have hV' := hV
  obtain ⟨gv, tv, cv, fv, dv, pv, rfl, hgv, htv, hvv, hdv, rfl⟩ := trodVars_one hV
  obtain ⟨a0, len0, cap0, rfl⟩ := okWide_slice Tryz.underlying22 (hval 0 22 v0 rfl rfl)
  have k0 := h0
  have lt0 : ∀ x ∈ p0, x.block < W.heap.size := by obtain ⟨m, hm⟩ := k0; exact DataW.trod_lt m _ _ _ hm
  obtain ⟨z0, w0⟩ : ∃ zs, pU .u8 W a0 len0 cap0 zs := by
    obtain ⟨fuel, hf⟩ := h0
    rcases open_ints Tryz.underlying22 Tryz.underlying5 (by kernel_rfl) hf with ⟨hcs, _⟩ | ⟨x, l, c, zs, hcs, _, hl, hm, hz, _, hcell, hwz⟩
    · simp [Value.cells] at hcs
      obtain ⟨rfl, rfl, rfl⟩ := hcs
      exact ⟨[], .inl ⟨rfl, rfl, rfl, rfl⟩⟩
    · simp [Value.cells] at hcs
      obtain ⟨rfl, rfl, rfl⟩ := hcs
      exact ⟨zs, .inr ⟨_, rfl, hl, hm, by simpa using hz, hcell, hwz⟩⟩
  obtain ⟨m, hm⟩ := xg W hsh
  clear hA0 hval0
  refine (fnZipMoveSame_walk a0 len0 cap0 z0 m W w0 hm (JA hL (List.mem_filter.2 ⟨by simp [Rows.fnZipMoveSameRow, Rows.laid_errors_errorType], rfl⟩)) (sv hL (by kernel_rfl) (List.mem_filter.2 ⟨(List.Mem.tail _ (List.Mem.tail _ (List.Mem.head _))), by kernel_rfl⟩))).mono fun e W' ⟨he, bel⟩ => ?_
  subst he
  exact ⟨_, rfl, _, _, _, [], _, _, hW', trodAll_mk1 (shut_bool Tryz.underlying4 _), (trodAll_cons_mk (Below.trod laidOut (by kernel_rfl) (of_decide_eq_true (by kernel_rfl)) k0 bel lt0) trodAll_mk0), bel.trodVars laidOut (by kernel_rfl) hV', bel.frame _, fun h => by cases h⟩

theorem kIn : (Rows.fnZipMoveSameRow.inPlace == Tryz.pinned.checked.prog.inPlace 7) = true := by kernel_rfl
theorem kUn : (Rows.fnZipMoveSameRow.unfollowed == Tryz.pinned.checked.prog.unfollowed 7) = true := by kernel_rfl
theorem kRe : (Rows.fnZipMoveSameRow.recurses == Tryz.pinned.checked.prog.recurses 7) = true := by kernel_rfl
theorem kNa : (Rows.fnZipMoveSameRow.named == Tryz.pinned.checked.prog.varsNamed 7) = true := by kernel_rfl
theorem closed : joinedFacts Tryz.pinned.checked.prog 7 Tryz.f7 Rows.fnZipMoveSameSpec Rows.fnZipMoveSameRow = true := by
  unfold joinedFacts
  rw [kIn, kUn, kRe, kNa]
  kernel_rfl
theorem over : Rows.fnZipMoveSameRow.holds Tryz.pinned (OpenSpec.ofChange Rows.fnZipMoveSameSpec) :=
  OpenClaim.holds_of_wide 7 Tryz.f7 rfl rfl rfl rfl rfl rfl rfl ⟨rfl, rfl, rfl, rfl, rfl⟩ rfl rfl rfl rfl rfl (by kernel_rfl) Tryz.func7 closed
    (of_decide_eq_true (by kernel_rfl)) (by unfold Func.isWrapper; first | (rw [if_pos (by decide +kernel)]; kernel_rfl) | (rw [if_neg (by decide +kernel)]; exact ⟨rfl, rfl⟩))
    (fun os started H enc _ => lifted os started H enc)

theorem card : Rows.FnZipMoveSameCardSaid :=
  Claim7.holds_tied_plain_at .later [] [.data, .handle, .data, .pinned] true (true, "0185f0ebc97a8f7ab45e6731224023e6c20acb09b0fb65323e58fd0b2c01f292") true over (fun _ h => by cases h) (by kernel_rfl) (fun _ h => by cases h) fnZipMoveSame_row_tie rfl ⟨rfl, rfl⟩ (by kernel_rfl) rfl
    (fun f fn hf hfn => by
      obtain rfl : f = 7 := Option.some.inj ((show Tryz.prog.funcNamed "loop.example/corbel/laws.FnZipMoveSame" = some 7 by kernel_rfl).symm.trans hf) |>.symm
      obtain rfl : fn = Tryz.f7 := (Option.some.inj (Tryz.func7.symm.trans hfn)).symm
      exact ⟨by kernel_rfl, fun j t ht => by
        rw [Tryz.params7] at ht
        have hm : t ∈ [22] := by simpa using Array.mem_of_getElem? ht
        have hall : ([22].all fun u => !Tryz.prog.wantsStandIn u) = true := by kernel_rfl
        exact (show Tryz.prog.wantsStandIn t = false by simpa using List.all_eq_true.1 hall t hm)⟩)
    (by kernel_rfl)
end fnZipMoveSameDone
theorem fnZipMoveSame_holds : Rows.FnZipMoveSameCardSaid := fnZipMoveSameDone.card
end Go.Proofs.YtfhdadkcophoaaaGreatDoor
