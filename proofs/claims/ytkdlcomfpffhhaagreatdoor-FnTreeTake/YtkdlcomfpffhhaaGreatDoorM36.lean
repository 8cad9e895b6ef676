/- Of what the proof is made: 2 texts, one behind the other. -/
import Derived.Test.YtkdlcomfpffhhaaGreatDoorM17
import Derived.Test.YtkdlcomfpffhhaaGreatDoorM8
import Derived.Test.YtkdlcomfpffhhaaGreatDoorM18
import Derived.Test.YtkdlcomfpffhhaaGreatDoorM10
import Derived.Test.YtkdlcomfpffhhaaGreatDoorM35
import Derived.Test.YtkdlcomfpffhhaaGreatDoorM21
import Derived.Test.YtkdlcomfpffhhaaGreatDoorM4
import Derived.Test.YtkdlcomfpffhhaaGreatDoorM9
import Derived.Test.YtkdlcomfpffhhaaGreatDoorM22
import Derived.Test.YtkdlcomfpffhhaaGreatDoorShelf
set_option maxRecDepth 100000
set_option linter.unusedSimpArgs false
set_option linter.unusedVariables false
set_option maxHeartbeats 1600000
namespace Go.Proofs.YtkdlcomfpffhhaaGreatDoor
open Go.RowKit Corb
variable {g n:Nat}{w w':World}{xs:List Value}
def Std(V:Nat):Nat->List (Int×Int)->Prop
 | _,[]=>True
 | p,x :: l=>V/2 ^ p%2 ^ x.2.toNat=x.1.toNat/\Std V (p+x.2.toNat) l
def bN(l:List (Int×Int)):Nat:=fu (bitsOf l)
theorem eU{base cap c:Nat}{T:TypeId}(vs:List Value)(o:Nat)(h:w.ownsRow base T c (.slice (some ⟨g,0,none⟩) n cap) n xs):(w.setCells g o vs).ownsRow base T c (.slice (some ⟨g,0,none⟩) n cap) n (sT xs o vs):=by
 induction vs generalizing w o xs with
 | nil=>exact h
 | cons v vs ih=>exact ih (o+1) (a1S h o v).1
theorem yT{base cap:Nat}{T:TypeId}(h:w.ownsRow base T 1 (.slice (some ⟨g,0,none⟩) n cap) n xs)(l:n+1<=cap):∃y,w.ownsRow base T 1 (.slice (some ⟨g,0,none⟩) (n+1) cap) (n+1) (xs++[y]):=by
 have m:=h.1;rcases h.2 with⟨d,_⟩|⟨g',i,b,d,hb,j,k,e,c,a⟩
 . simp at d
 .
  simp only[a0O,a0m,a0F,a1a,a2A]at d;obtain⟨rfl,rfl⟩:=d;have f:n<b.toList.length:=by rw[a2n,c];omega
  refine⟨b.toList[n],?_,.inr ⟨g,cap,b,rfl,hb,j,l,e,c,?_⟩⟩
  . simp;omega
  . rw[a2l]at a ⊢;rw[a1i f,a]
theorem sF(w:World)(base:Nat)(T:TypeId)(a:Array Value)(cap n:Nat)(hb:base<=w.heap.size)(b:cap<=maxLen)(d:a.size=cap)(c:n<=cap):(w.alloc (.cells a T)).ownsRow base T 1 (.slice (some ⟨w.heap.size,0,none⟩) n cap) n (a.toList.take n):=
 ⟨by simp;omega,.inr ⟨w.heap.size,cap,a,rfl,hb,World.alloc_heap_new w _,c,b,by omega,by rw[a2l]⟩⟩
theorem jK(h:w.grownBy w' (some g))(vs:List Value)(o:Nat):w.grownBy (w'.setCells g o vs) (some g):=by
 have hb:=below_setCells (B:=0) (a0h g) vs o w' (a0c 0 w');refine⟨hb.os.trans h.os,hb.tape.trans h.tape,hb.output.trans h.output,a0G h.size hb.size,fun k b a=>?_⟩;rw[cZ g vs o w' k (fun e=>a (by rw[e]))];exact h.block k b a
theorem ru{row:Option Nat}(c:w.heap.size<=g)(h:w.grownBy w' row)(vs:List Value)(o:Nat):w.grownBy (w'.setCells g o vs) row:=by
 have hb:=below_setCells (B:=0) (a0h g) vs o w' (a0c 0 w');refine⟨hb.os.trans h.os,hb.tape.trans h.tape,hb.output.trans h.output,a0G h.size hb.size,fun k b a=>?_⟩;rw[cZ g vs o w' k (by omega)];exact h.block k b a
theorem L9{k:Nat}(x y:Value)(a:k<=xs.length):sT (sT (xs++[y]) (k+1) (xs.drop k)) k [x]=xs.take k++x :: xs.drop k:=by
 have l1:(xs.take k).length=k:=by simp;omega
 obtain⟨c,hc⟩:∃c,(xs++[y]).take (k+1)=xs.take k++[c]:=⟨(xs++[y])[k]'(by simp;omega),by rw[a1i (by simp;omega),a1J a]⟩;have e2:(xs++[y]).drop (k+1+(xs.drop k).length)=[]:=a3T (by simp;omega);rw[lO (xs.drop k) (xs++[y]) (k+1) (by simp;omega),hc,e2,a1r,lO [x] _ k (by simp;omega)];have e3:(xs.take k++[c]++xs.drop k).take k=xs.take k:=by rw[a0U];exact a2K l1
 have e4:(xs.take k++[c]++xs.drop k).drop (k+[x].length)=xs.drop k:=List.drop_left' (by simp;omega);rw[e3,e4];simp
theorem mC{row:Option Nat}(h:w.grownBy w' row):w.grownBy w'.drew row:=⟨h.os,h.tape,h.output,h.size,h.block⟩
theorem nG{row:Option Nat}(h:w.drew.grownBy w' row):w.grownBy w' row:=⟨h.os,h.tape,h.output,h.size,h.block⟩
theorem rx(w:World)(row:Option Nat):w.grownBy w row:=⟨rfl,rfl,rfl,a0a _,fun _ _ _=>rfl⟩
theorem JC{Z:List Value}{k:Nat}(x:Value)(c:xs.length=n)(d:k<n)(e:Z.length=n+1-k):sT (sT (xs.take k++Z) k [x]) (k+1) (xs.drop k)=xs.take k++x :: xs.drop k:=by
 have l1:(xs.take k).length=k:=by simp;omega
 have l2:(xs.take k++[x]).length=k+1:=by simp;omega
 have l3:(xs.drop k).length=n-k:=by simp;omega
 rw[lO [x] _ k (by simp;omega),a2K l1];generalize b:(xs.take k++Z).drop (k+[x].length)=R;have lR:R.length=n-k:=by rw[←b];simp;omega
 rw[lO (xs.drop k) _ (k+1) (by rw[a0o,l2,l3,lR];omega),a2K l2];have a:(xs.take k++[x]++R).drop (k+1+(xs.drop k).length)=[]:=a2p (by rw[a0o,l2,l3,lR];omega);rw[a];simp
theorem zcS:(Value.string ⟨#[]⟩).cells.size=1:=rfl
def Og(w:World)(base n k:Nat)(v:Value)(xs:List Value)(x:ByteArray)(e:Ending)(w':World):Prop:=
 ∃u,e = .returned u/\w'.ownsRow base 9 1 u (n+1) (xs.take k ++ .string x :: xs.drop k)/\w.grownBy w' v.ownBlock
theorem AU(a:Option Addr)(cap n k vb base:Nat)(xs:List Value)(x:ByteArray)(w:World)(h:w.ownsRow base 9 1 (.slice a n cap) n xs)(D:base<=w.heap.size)(Q:k<=n)(R:n<=100)(M:∀v∈xs,v.oneCell'=true)
  (r:w.heap[vb]?=some (.cells #[.string x] 9 (0,0))) (G:(Value.slice a n cap).ownBlock≠some vb) :
  Calls Tryz.prog 67 #[.slice a n cap,.int .i64 (k:Nat),.slice (some ⟨vb,0,none⟩) 1 1] w (Og w base n k (.slice a n cap) xs x):=by
 have m:xs.length=n:=by have:=h.1;omega
 have l:∀j v,([.string x]:List Value)[j]?=some v->w.cell? ⟨vb,0+j,none⟩=some v:=by
  intro j v q;rw[a0B,a1t w vb j _ _ (0,0) r];simpa using q
 have d:∀v∈([.string x]:List Value),v.oneCell'=true:=by
  intro v r;rw[a1g]at r;subst r;rfl
 have z:∀j,w.frozen? ⟨vb,j,none⟩=false:=fun j=>frozen_of_row w vb j _ _ r;have I:w.shape? vb=some (9,1):=by simp[World.shape?,r]
 rcases h.2 with⟨s,P⟩|⟨g,L,B,s,hb,N,A,E,O,J⟩
 .
  simp only[a0O]at s;obtain⟨rfl,rfl,rfl⟩:=s;obtain rfl:k=0:=by omega
  obtain rfl:xs=[]:=a1P m;refine(Any2.slices_Insert_string_end_grow Tryz.lays2n22 none 0 0 vb 0 1 1 [] [.string x] w (by omega) (by omega) (by omega) (by omega) rfl rfl (fun _=>rfl) (fun a e=>nomatch e) l d).mono ?_;rintro e w' ⟨rfl,rfl⟩;have b:=grownCap_ge w (0+1) 0 9;have c:=a3H w (0+1) 0 9 (by unfold maxLen;omega);have e0:Tryz.lays2n22_ren.t 9=9:=rfl;rw[e0];generalize grownCap w (0+1) 0 9=C at b c ⊢;refine⟨_,rfl,?_,nG (World.grownBy_alloc w.drew _ _)⟩;have:=sF w.drew base 9 (([]++[Value.string x]).toArray++Builtin.zeroCells (Value.string ⟨#[]⟩).cells (C-(0+1))) C (0+1) D c (by simp[a2T,zcS];omega) b;simpa using this
 .
  simp only[a0O]at s;obtain⟨rfl,_,rfl⟩:=s;have F:vb≠g:=fun e=>G (by rw[e];rfl);have f:∀j v,xs[j]?=some v->w.cell? ⟨g,0+j,none⟩=some v:=by
   intro j v q;have:=a02 h j (by have:=(List.getElem?_eq_some_iff.1 q).1;omega);rw[a0B,this];exact q
  have u:∀j,w.frozen? ⟨g,j,none⟩=false:=fun j=>frozen_of_row w g j B _ N;by_cases H:n+1<=cap
  .
   obtain⟨y,K⟩:=yT h H;have i:∀j,j<n+1->(w.cell? ⟨g,0+j,none⟩).isSome=true:=by
    intro j q;have:=a02 K j (by omega);rw[a0B,this,List.getElem?_eq_getElem (by simp;omega)];rfl
   have p:cap<=9223372036854775807:=by unfold maxLen at E;omega
   by_cases o:k<n
   . refine(Any2.slices_Insert_string_shift Tryz.lays2n22 g 0 n cap k vb 0 1 1 xs [.string x] w o (by omega) H p F m rfl f i (fun j _=>u _) l M d 9 9 1 cap I (by simp[World.shape?,N];omega) (by omega) (z _) (z _)).mono ?_;rintro e w' ⟨rfl,rfl⟩;refine⟨_,rfl,?_,jK (jK (mC (rx w _)) _ _) _ _⟩;have e3:=eU [.string x] (0+k) (eU (xs.drop k) (0+(k+1)) (World.ownsRow.drew K));rw[a0B,a0B,L9 _ _ (by omega)]at e3;simpa using e3
   .
    obtain rfl:k=n:=by omega
    refine(Any2.slices_Insert_string_end_room Tryz.lays2n22 g 0 k cap vb 0 1 1 [.string x] w (by omega) H p rfl (fun j q=>by have:=i (k+j) (by omega);rw[a0B]at this;rw[a0B];exact this) (fun j _=>u _) l d).mono ?_;rintro e w' ⟨rfl,rfl⟩;refine⟨_,rfl,?_,jK (rx w _) _ _⟩;have e3:=eU [.string x] (0+k) K;rw[a0B,lO _ _ _ (by simp;omega),a1J (by omega),a2p (by simp;omega)]at e3;rw[a2p (by omega)];simpa using e3
  .
   have b:=grownCap_ge w (n+1) cap 9;have c:=a3H w (n+1) cap 9 (by unfold maxLen;omega);obtain⟨C,hC⟩:∃C,grownCap w (n+1) cap 9=C:=⟨_,rfl⟩;rw[hC]at b c;by_cases o:k<n
   .
    refine(Any2.slices_Insert_string_grow Tryz.lays2n22 g 0 n cap k vb 0 1 1 xs [.string x] w o (by omega) A (by omega) (by omega) m rfl f l M d).mono ?_;rintro e w' ⟨rfl,rfl⟩;have e0:Tryz.lays2n22_ren.t 9=9:=rfl;rw[e0,hC];refine⟨_,rfl,?_,ru (a0a _) (mC (ru (a0a _) (mC (World.grownBy_alloc w _ _)) _ _)) _ _⟩;have n0:=sF w base 9 ((xs.take k).toArray++Builtin.zeroCells (Value.string ⟨#[]⟩).cells (n+1-k)++Builtin.zeroCells (Value.string ⟨#[]⟩).cells (C-(n+1))) C (n+1) D c (by simp[a2T,zcS];omega) b;have l1:(xs.take k).length=k:=by simp;omega
    have z0:((xs.take k).toArray++Builtin.zeroCells (Value.string ⟨#[]⟩).cells (n+1-k)++Builtin.zeroCells (Value.string ⟨#[]⟩).cells (C-(n+1))).toList.take (n+1)=xs.take k++(Builtin.zeroCells (Value.string ⟨#[]⟩).cells (n+1-k)).toList:=by
     rw[a1B];rw[a2K (by simp[a2T,zcS];omega)];simp
    have z1:(Builtin.zeroCells (Value.string ⟨#[]⟩).cells (n+1-k)).toList.length=n+1-k:=by simp[a2T,zcS]
    rw[z0]at n0;generalize (Builtin.zeroCells (Value.string ⟨#[]⟩).cells (n+1-k)).toList=Z at n0 z1;have e3:=eU (xs.drop k) (k+1) (World.ownsRow.drew (eU [.string x] k (World.ownsRow.drew n0)));rw[JC (.string x) m o z1]at e3;simpa using e3
   .
    obtain rfl:k=n:=by omega
    refine(Any2.slices_Insert_string_end_grow Tryz.lays2n22 (some ⟨g,0,none⟩) k cap vb 0 1 1 xs [.string x] w (by omega) A (by omega) (by omega) m rfl (fun e=>nomatch e) (fun a e j v q=>by cases e;exact a1Q h rfl j v q) l d).mono ?_;rintro e w' ⟨rfl,rfl⟩;have e0:Tryz.lays2n22_ren.t 9=9:=rfl;rw[e0,hC];refine⟨_,rfl,?_,nG (World.grownBy_alloc w.drew _ _)⟩;have n0:=sF w.drew base 9 ((xs++[Value.string x]).toArray++Builtin.zeroCells (Value.string ⟨#[]⟩).cells (C-(k+1))) C (k+1) D c (by simp[a2T,zcS];omega) b;rw[a1B,a2K (by simp;omega)]at n0;rw[a0D (by omega),a2p (by omega)];exact n0
end Go.Proofs.YtkdlcomfpffhhaaGreatDoor
