/- A text laid into a row of texts of the call's own, in its place: slices.Insert. -/
import Derived.Test.YtkpfkgoiaicgbaaGreatDoorM9
import Derived.Test.YtkpfkgoiaicgbaaGreatDoorM5
import Derived.Test.YtkpfkgoiaicgbaaGreatDoorM10
import Derived.Test.YtkpfkgoiaicgbaaGreatDoorFb2
import Derived.Test.YtkpfkgoiaicgbaaGreatDoorShelf
set_option linter.unusedSimpArgs false
set_option linter.unusedVariables false
set_option maxHeartbeats 1600000
namespace Go.Proofs.YtkpfkgoiaicgbaaGreatDoor
open Go.RowKit
set_option maxRecDepth 100000
theorem d8{w:World}{base g cap n c:Nat}{T:TypeId}{xs:List Value}(vs:List Value)(o:Nat)(h:w.ownsRow base T c (.slice (some ⟨g,0,none⟩) n cap) n xs):(w.setCells g o vs).ownsRow base T c (.slice (some ⟨g,0,none⟩) n cap) n (rZ xs o vs):=by
 induction vs generalizing w o xs with
 | nil=>exact h
 | cons v vs ih=>exact ih (o+1) (World.ownsRow.stored h o v).1
theorem xP{w:World}{base g n cap:Nat}{T:TypeId}{xs:List Value}(h:w.ownsRow base T 1 (.slice (some ⟨g,0,none⟩) n cap) n xs)(hr:n+1<=cap):∃y,w.ownsRow base T 1 (.slice (some ⟨g,0,none⟩) (n+1) cap) (n+1) (xs++[y]):=by
 have hx:=h.1;rcases h.2 with⟨h',_⟩|⟨g',cap',cur,h',hb,hg,hnc,hcm,hcs,htake⟩
 · simp at h'
 ·
  simp only[Value.slice.injEq,Option.some.injEq,Addr.mk.injEq,and_true,true_and]at h';obtain⟨rfl,rfl⟩:=h';have hlt:n<cur.toList.length:=by rw[Array.length_toList,hcs];omega
  refine⟨cur.toList[n],?_,.inr ⟨g,cap,cur,rfl,hb,hg,hr,hcm,hcs,?_⟩⟩
  · simp;omega
  · rw[Nat.mul_one]at htake ⊢;rw[List.take_succ_eq_append_getElem hlt,htake]
theorem rH(w:World)(base:Nat)(T:TypeId)(cs:Array Value)(cap n:Nat)(hb:base<=w.heap.size)(hm:cap<=maxLen)(hs:cs.size=cap)(hn:n<=cap):(w.alloc (.cells cs T)).ownsRow base T 1 (.slice (some ⟨w.heap.size,0,none⟩) n cap) n (cs.toList.take n):=
 ⟨by simp;omega,.inr ⟨w.heap.size,cap,cs,rfl,hb,World.alloc_heap_new w _,hn,hm,by omega,by rw[Nat.mul_one]⟩⟩
theorem jm{w w':World}{g:Nat}(h:w.grownBy w' (some g))(vs:List Value)(o:Nat):w.grownBy (w'.setCells g o vs) (some g):=by
 have hb:=below_setCells (B:=0) (Nat.zero_le g) vs o w' (Below.refl 0 w');refine⟨hb.os.trans h.os,hb.tape.trans h.tape,hb.output.trans h.output,Nat.le_trans h.size hb.size,fun k hk hne=>?_⟩;rw[cW g vs o w' k (fun e=>hne (by rw[e]))];exact h.block k hk hne
theorem qF{w w':World}{g:Nat}{row:Option Nat}(hg:w.heap.size<=g)(h:w.grownBy w' row)(vs:List Value)(o:Nat):w.grownBy (w'.setCells g o vs) row:=by
 have hb:=below_setCells (B:=0) (Nat.zero_le g) vs o w' (Below.refl 0 w');refine⟨hb.os.trans h.os,hb.tape.trans h.tape,hb.output.trans h.output,Nat.le_trans h.size hb.size,fun k hk hne=>?_⟩;rw[cW g vs o w' k (by omega)];exact h.block k hk hne
theorem KV{xs:List Value}{k:Nat}(x y:Value)(hk:k<=xs.length):rZ (rZ (xs++[y]) (k+1) (xs.drop k)) k [x]=xs.take k++x :: xs.drop k:=by
 have l1:(xs.take k).length=k:=by simp;omega
 obtain⟨c,hc⟩:∃c,(xs++[y]).take (k+1)=xs.take k++[c]:=⟨(xs++[y])[k]'(by simp;omega),by rw[List.take_succ_eq_append_getElem (by simp;omega),List.take_append_of_le_length hk]⟩;have e2:(xs++[y]).drop (k+1+(xs.drop k).length)=[]:=List.drop_eq_nil_of_le (by simp;omega);rw[lC (xs.drop k) (xs++[y]) (k+1) (by simp;omega),hc,e2,List.append_nil,lC [x] _ k (by simp;omega)];have e3:(xs.take k++[c]++xs.drop k).take k=xs.take k:=by rw[List.append_assoc];exact List.take_left' l1
 have e4:(xs.take k++[c]++xs.drop k).drop (k+[x].length)=xs.drop k:=List.drop_left' (by simp;omega);rw[e3,e4];simp
theorem mg{w w':World}{row:Option Nat}(h:w.grownBy w' row):w.grownBy w'.drew row:=⟨h.os,h.tape,h.output,h.size,h.block⟩
theorem nb{w w':World}{row:Option Nat}(h:w.drew.grownBy w' row):w.grownBy w' row:=⟨h.os,h.tape,h.output,h.size,h.block⟩
theorem qG(w:World)(row:Option Nat):w.grownBy w row:=⟨rfl,rfl,rfl,Nat.le_refl _,fun _ _ _=>rfl⟩
theorem IH{xs Z:List Value}{k n:Nat}(x:Value)(hxl:xs.length=n)(hk:k<n)(hz:Z.length=n+1-k):rZ (rZ (xs.take k++Z) k [x]) (k+1) (xs.drop k)=xs.take k++x :: xs.drop k:=by
 have l1:(xs.take k).length=k:=by simp;omega
 have l2:(xs.take k++[x]).length=k+1:=by simp;omega
 have l3:(xs.drop k).length=n-k:=by simp;omega
 rw[lC [x] _ k (by simp;omega),List.take_left' l1];generalize hR:(xs.take k++Z).drop (k+[x].length)=R;have lR:R.length=n-k:=by rw[←hR];simp;omega
 rw[lC (xs.drop k) _ (k+1) (by rw[List.length_append,l2,l3,lR];omega),List.take_left' l2];have d0:(xs.take k++[x]++R).drop (k+1+(xs.drop k).length)=[]:=List.drop_of_length_le (by rw[List.length_append,l2,l3,lR];omega);rw[d0];simp
theorem zcS:(Value.string ⟨#[]⟩).cells.size=1:=rfl
def M5(w:World)(base n k:Nat)(v:Value)(xs:List Value)(x:ByteArray)(e:Ending)(w':World):Prop:=
 ∃u,e = .returned u/\w'.ownsRow base 9 1 u (n+1) (xs.take k ++ .string x :: xs.drop k)/\w.grownBy w' v.ownBlock
theorem qT(a:Option Addr)(cap n k vb base:Nat)(xs:List Value)(x:ByteArray)(w:World)(h:w.ownsRow base 9 1 (.slice a n cap) n xs)(hB:base<=w.heap.size)(hk:k<=n)(hm:n<=100)(h1:∀v∈xs,v.oneCell'=true)
  (hv:w.heap[vb]?=some (.cells #[.string x] 9 (0,0))) (hne:(Value.slice a n cap).ownBlock≠some vb) :
  Calls Tryz.prog 45 #[.slice a n cap,.int .i64 (k:Nat),.slice (some ⟨vb,0,none⟩) 1 1] w (M5 w base n k (.slice a n cap) xs x):=by
 have hxl:xs.length=n:=by have:=h.1;omega
 have hvc:∀j v,([.string x]:List Value)[j]?=some v->w.cell? ⟨vb,0+j,none⟩=some v:=by
  intro j v hj;rw[Nat.zero_add,cell_of_row w vb j _ _ (0,0) hv];simpa using hj
 have h1v:∀v∈([.string x]:List Value),v.oneCell'=true:=by
  intro v hv;rw[List.mem_singleton]at hv;subst hv;rfl
 have hfv:∀j,w.frozen? ⟨vb,j,none⟩=false:=fun j=>frozen_of_row w vb j _ _ hv;have hsv:w.shape? vb=some (9,1):=by simp[World.shape?,hv]
 rcases h.2 with⟨h',h0⟩|⟨g,cap',cur,h',hb,hg,hnc,hcm,hcs,htake⟩
 ·
  simp only[Value.slice.injEq]at h';obtain⟨rfl,rfl,rfl⟩:=h';obtain rfl:k=0:=by omega
  obtain rfl:xs=[]:=List.eq_nil_of_length_eq_zero hxl;refine(Any2.slices_Insert_string_end_grow Tryz.lays2n22 none 0 0 vb 0 1 1 [] [.string x] w (by omega) (by omega) (by omega) (by omega) rfl rfl (fun _=>rfl) (fun a e=>nomatch e) hvc h1v).mono ?_;rintro e w' ⟨rfl,rfl⟩;have hge:=grownCap_ge w (0+1) 0 9;have hle:=grownCap_le_maxLen w (0+1) 0 9 (by unfold maxLen;omega);have e0:Tryz.lays2n22_ren.t 9=9:=rfl;rw[e0];generalize grownCap w (0+1) 0 9=C at hge hle ⊢;refine⟨_,rfl,?_,nb (World.grownBy_alloc w.drew _ _)⟩;have:=rH w.drew base 9 (([]++[Value.string x]).toArray++Builtin.zeroCells (Value.string ⟨#[]⟩).cells (C-(0+1))) C (0+1) hB hle (by simp[size_zeroCells,zcS];omega) hge;simpa using this
 ·
  simp only[Value.slice.injEq]at h';obtain⟨rfl,_,rfl⟩:=h';have hgv:vb≠g:=fun e=>hne (by rw[e];rfl);have hcell:∀j v,xs[j]?=some v->w.cell? ⟨g,0+j,none⟩=some v:=by
   intro j v hj;have:=World.ownsRow.cellAt h j (by have:=(List.getElem?_eq_some_iff.1 hj).1;omega);rw[Nat.zero_add,this];exact hj
  have hfg:∀j,w.frozen? ⟨g,j,none⟩=false:=fun j=>frozen_of_row w g j cur _ hg;by_cases hr:n+1<=cap
  ·
   obtain⟨y,hy⟩:=xP h hr;have hsome:∀j,j<n+1->(w.cell? ⟨g,0+j,none⟩).isSome=true:=by
    intro j hj;have:=World.ownsRow.cellAt hy j (by omega);rw[Nat.zero_add,this,List.getElem?_eq_getElem (by simp;omega)];rfl
   have hcap:cap<=9223372036854775807:=by unfold maxLen at hcm;omega
   by_cases hlt:k<n
   · refine(Any2.slices_Insert_string_shift Tryz.lays2n22 g 0 n cap k vb 0 1 1 xs [.string x] w hlt (by omega) hr hcap hgv hxl rfl hcell hsome (fun j _=>hfg _) hvc h1 h1v 9 9 1 cap hsv (by simp[World.shape?,hg];omega) (by omega) (hfv _) (hfv _)).mono ?_;rintro e w' ⟨rfl,rfl⟩;refine⟨_,rfl,?_,jm (jm (mg (qG w _)) _ _) _ _⟩;have e3:=d8 [.string x] (0+k) (d8 (xs.drop k) (0+(k+1)) (World.ownsRow.drew hy));rw[Nat.zero_add,Nat.zero_add,KV _ _ (by omega)]at e3;simpa using e3
   ·
    obtain rfl:k=n:=by omega
    refine(Any2.slices_Insert_string_end_room Tryz.lays2n22 g 0 k cap vb 0 1 1 [.string x] w (by omega) hr hcap rfl (fun j hj=>by have:=hsome (k+j) (by omega);rw[Nat.zero_add]at this;rw[Nat.zero_add];exact this) (fun j _=>hfg _) hvc h1v).mono ?_;rintro e w' ⟨rfl,rfl⟩;refine⟨_,rfl,?_,jm (qG w _) _ _⟩;have e3:=d8 [.string x] (0+k) hy;rw[Nat.zero_add,lC _ _ _ (by simp;omega),List.take_append_of_le_length (by omega),List.drop_of_length_le (by simp;omega)]at e3;rw[List.drop_of_length_le (by omega)];simpa using e3
  ·
   have hge:=grownCap_ge w (n+1) cap 9;have hle:=grownCap_le_maxLen w (n+1) cap 9 (by unfold maxLen;omega);obtain⟨C,hC⟩:∃C,grownCap w (n+1) cap 9=C:=⟨_,rfl⟩;rw[hC]at hge hle;by_cases hlt:k<n
   ·
    refine(Any2.slices_Insert_string_grow Tryz.lays2n22 g 0 n cap k vb 0 1 1 xs [.string x] w hlt (by omega) hnc (by omega) (by omega) hxl rfl hcell hvc h1 h1v).mono ?_;rintro e w' ⟨rfl,rfl⟩;have e0:Tryz.lays2n22_ren.t 9=9:=rfl;rw[e0,hC];refine⟨_,rfl,?_,qF (Nat.le_refl _) (mg (qF (Nat.le_refl _) (mg (World.grownBy_alloc w _ _)) _ _)) _ _⟩;have n0:=rH w base 9 ((xs.take k).toArray++Builtin.zeroCells (Value.string ⟨#[]⟩).cells (n+1-k)++Builtin.zeroCells (Value.string ⟨#[]⟩).cells (C-(n+1))) C (n+1) hB hle (by simp[size_zeroCells,zcS];omega) hge;have l1:(xs.take k).length=k:=by simp;omega
    have z0:((xs.take k).toArray++Builtin.zeroCells (Value.string ⟨#[]⟩).cells (n+1-k)++Builtin.zeroCells (Value.string ⟨#[]⟩).cells (C-(n+1))).toList.take (n+1)=xs.take k++(Builtin.zeroCells (Value.string ⟨#[]⟩).cells (n+1-k)).toList:=by
     rw[Array.toList_append];rw[List.take_left' (by simp[size_zeroCells,zcS];omega)];simp
    have z1:(Builtin.zeroCells (Value.string ⟨#[]⟩).cells (n+1-k)).toList.length=n+1-k:=by simp[size_zeroCells,zcS]
    rw[z0]at n0;generalize (Builtin.zeroCells (Value.string ⟨#[]⟩).cells (n+1-k)).toList=Z at n0 z1;have e3:=d8 (xs.drop k) (k+1) (World.ownsRow.drew (d8 [.string x] k (World.ownsRow.drew n0)));rw[IH (.string x) hxl hlt z1]at e3;simpa using e3
   ·
    obtain rfl:k=n:=by omega
    refine(Any2.slices_Insert_string_end_grow Tryz.lays2n22 (some ⟨g,0,none⟩) k cap vb 0 1 1 xs [.string x] w (by omega) hnc (by omega) (by omega) hxl rfl (fun e=>nomatch e) (fun a e j v hj=>by cases e;exact World.ownsRow.cells h rfl j v hj) hvc h1v).mono ?_;rintro e w' ⟨rfl,rfl⟩;have e0:Tryz.lays2n22_ren.t 9=9:=rfl;rw[e0,hC];refine⟨_,rfl,?_,nb (World.grownBy_alloc w.drew _ _)⟩;have n0:=rH w.drew base 9 ((xs++[Value.string x]).toArray++Builtin.zeroCells (Value.string ⟨#[]⟩).cells (C-(k+1))) C (k+1) hB hle (by simp[size_zeroCells,zcS];omega) hge;rw[Array.toList_append,List.take_left' (by simp;omega)]at n0;rw[List.take_of_length_le (by omega),List.drop_of_length_le (by omega)];exact n0
end Go.Proofs.YtkpfkgoiaicgbaaGreatDoor
