/- Of what the proof is made: 2 texts, one behind the other. -/
import Derived.Test.YtkdlcomfpffhhaaGreatDoorM18
import Derived.Test.YtkdlcomfpffhhaaGreatDoorM19
import Derived.Test.YtkdlcomfpffhhaaGreatDoorM11
import Derived.Test.YtkdlcomfpffhhaaGreatDoorM36
import Derived.Test.YtkdlcomfpffhhaaGreatDoorM22
import Derived.Test.YtkdlcomfpffhhaaGreatDoorM8
import Derived.Test.YtkdlcomfpffhhaaGreatDoorM4
import Derived.Test.YtkdlcomfpffhhaaGreatDoorM9
import Derived.Test.YtkdlcomfpffhhaaGreatDoorM23
import Derived.Test.YtkdlcomfpffhhaaGreatDoorShelf
set_option linter.unusedSimpArgs false
set_option linter.unusedVariables false
set_option maxHeartbeats 1600000
namespace Go.Proofs.YtkdlcomfpffhhaaGreatDoor
open Go.RowKit Corb
def Std(V:Nat):Nat->List (Int×Int)->Prop
 | _,[]=>True
 | p,x :: l=>V/2 ^ p%2 ^ x.2.toNat=x.1.toNat/\Std V (p+x.2.toNat) l
def bN(l:List (Int×Int)):Nat:=d9 (bitsOf l)
theorem iy:bN []=0:=rfl
theorem dO(x:Int×Int)(l:List (Int×Int)):bN (x :: l)=x.2.toNat+bN l:=by unfold bN bitsOf;rw[a0o,iW]
theorem cJ(a b:List (Int×Int)):bN (a++b)=bN a+bN b:=by unfold bN bitsOf;rw[a0N,pe]
theorem mq{V:Nat}{a b:List (Int×Int)} : ∀{p:Nat},Std V p (a++b)<->Std V p a/\Std V (p+bN a) b:=by
 induction a with
 | nil=>intro p;simp[Std,iy]
 | cons x a ih=>
  intro p;rw[a1h];simp only[Std];rw[ih,dO,and_assoc,a1W]
theorem IC{V:Nat} : ∀(l:List (Int×Int)) (p:Nat),de V p (bitsOf l)=numsOf l->Std V p l:=by
 intro l;induction l with
 | nil=>intro p _;trivial
 | cons x l ih=>
  intro p h;unfold bitsOf numsOf at h;rw[a0o,a0o]at h;simp only[de,List.cons.injEq]at h;refine⟨?_,ih _ h.2⟩;rw[←h.1,a0r]
theorem KR{l:List (Int×Int)}(W:Nat)(h:aM l=true):Std ((aT l).1+W*2 ^ (aT l).2) 0 l:=IC l 0 (Eb l W h)
theorem oy{V sz p:Nat}{x:Int×Int}{l:List (Int×Int)}(h:Std V p (x :: l))(hs:p+x.2.toNat<=sz):rdN V sz p x.2.toNat=some (x.1.toNat,p+x.2.toNat):=by
 rw[lv hs,h.1]
theorem mG{B:List Int}(hok:ap B=true){V sz p k:Nat}{l:List (Int×Int)}(h0:0<B.getD k 0)(h:Std V p (pcM B k :: l))(hs:p+(B.getD k 0).toNat<=sz):dec B V sz p=some ((k:Int),p+(B.getD k 0).toNat):=by
 have hk:k<B.length:=by
  rcases a1q k B.length with h'|h'
  · exact h'
  · simp[List.getD,h']at h0
 have hb:=kf (eC hok) hk;obtain⟨n,hn⟩:∃n:Nat,B.getD k 0=(n:Int)+1:=⟨(B.getD k 0).toNat-1,by omega⟩;have h1:=h.1;unfold pcM at h1;simp only at h1;rw[xw B 15 k hk,a0d (by omega),a0r,a0r,hn,show((n:Int)+1).toNat=n+1 by omega]at h1;rw[hn,show((n:Int)+1).toNat=n+1 by omega]at hs ⊢;have:=FA hok hk hn h1 (by omega);rw[this]
 congr 1
theorem Kb:(List.range 61).all (fun y=>decide (y<3) || (decide (fnd 3 4 y 27<28)&&decide ((stF 3 4 (fnd 3 4 y 27)).1<=y)))=true:=by decide +kernel
theorem Jv:(List.range 251).all (fun y=>decide (y<1) || (decide (fnd 1 2 y 29<30)&&decide ((stF 1 2 (fnd 1 2 y 29)).1<=y)))=true:=by decide +kernel
theorem Gz{y:Nat}(h0:3<=y)(h1:y<=60):fnd 3 4 y 27<28/\(stF 3 4 (fnd 3 4 y 27)).1<=y:=by
 have:=a0R.1 Kb y (List.mem_range.2 (by omega));simp only[a1n,a0i,a0q]at this;omega
theorem Fe{y:Nat}(h0:1<=y)(h1:y<=250):fnd 1 2 y 29<30/\(stF 1 2 (fnd 1 2 y 29)).1<=y:=by
 have:=a0R.1 Jv y (List.mem_range.2 (by omega));simp only[a1n,a0i,a0q]at this;omega
theorem Io{V sz p least group many k y:Nat}{l:List (Int×Int)}(hk:k<many)(hy:(stF least group k).1<=y)(h:Std V p (((y:Int)-((stF least group k).1:Int),((stF least group k).2:Nat)) :: l))(hs:p+(stF least group k).2<=sz):scG V sz least group many k p=some (y,p+(stF least group k).2):=by
 unfold scG;rw[a0d hk];have h1:=oy (sz:=sz) h (by simpa using hs);simp only[a0r]at h1;rw[h1];simp only[a0g]
 congr 2
 omega
def zq(L D:List Int)(t:Tk):Prop:=if isB t then 0<L.getD t.1.toNat 0 else 0<L.getD (257+fnd 3 4 t.2.1.toNat 27) 0/\0<D.getD (fnd 1 2 t.2.2.toNat 29) 0
theorem jN(B:List Int)(k:Nat):(pcM B k).2.toNat=(B.getD k 0).toNat:=rfl
theorem Ko{L D:List Int}(okL:ap L=true)(okD:ap D=true){V sz p:Nat}{t:Tk}{l:List (Int×Int)}(ht:okT t=true)(hh:zq L D t)(h:Std V p (fX L D t++l))(hs:p+bN (fX L D t)<=sz) :
  ∃i q,dec L V sz p=some (i,q)/\i≠256/\oneG V sz D i q=some (t,p+bN (fX L D t)):=by
 obtain⟨y,lo,ba⟩:=t;unfold zq at hh;unfold fX at h hs ⊢;by_cases hB:isB (y,lo,ba)=true
 ·
  rw[a0d hB]at h hs hh ⊢;have hb:0<=y/\y<=255/\lo=0/\ba=0:=by unfold isB inB at hB;simp only[a0i,a0q]at hB;omega
  rw[dO,iy,a1e,jN]at hs ⊢;refine⟨_,_,mG okL hh h hs,?_,?_⟩
  · simp only;omega
  · unfold oneG;rw[a0d (by simp only;omega)];simp only[a0j,a0O,a0V];omega
 ·
  rw[a0e hB]at h hs hh ⊢;have hK:isK (y,lo,ba)=true:=by unfold okT at ht;simpa[hB]using ht
  have hb:y=0/\3<=lo/\lo<=60/\1<=ba/\ba<=250:=by unfold isK inB at hK;simp only[a0i,a0q]at hK;omega
  obtain⟨rfl,b1,b2,b3,b4⟩:=hb;obtain⟨x,rfl⟩:=a0u (show 0<=lo by omega);obtain⟨z,rfl⟩:=a0u (show 0<=ba by omega);simp only[a0r]at h hs hh ⊢;obtain⟨f1,f2⟩:=Gz (y:=x) (by omega) (by omega);obtain⟨g1,g2⟩:=Fe (y:=z) (by omega) (by omega);generalize fnd 3 4 x 27=k at *
  generalize fnd 1 2 z 29=j at *
  simp only[dO,iy,a1e,jN,a0r]at hs ⊢;have s1:=h;have s2:=h.2;have s3:=s2.2;have s4:=s3.2;simp only[jN,a0r]at s2 s3 s4;refine⟨_,_,mG okL hh.1 s1 (by omega),by omega,?_⟩;unfold oneG;rw[a0e (by omega),show((257+k:Nat):Int).toNat-257=k by omega];unfold jO;rw[Io f1 f2 s2 (by omega)];simp only[a0g];rw[mG okD hh.2 s3 (by omega)];simp only[a0g,a0r];rw[Io g1 g2 s4 (by omega)];simp only[a0g,a0j,a0O,a1v];omega
def mO(R:List UInt8):List Tk->Option (List UInt8)
 | []=>some R
 | t :: T=>(dE R t).bind fun x=>mO x T
theorem BO{L D:List Int}(okL:ap L=true)(okD:ap D=true){V sz:Nat}(hE:0<L.getD 256 0){l:List (Int×Int)} : ∀(T:List Tk) (p:Nat) (R R':List UInt8),(∀t∈T,okT t=true/\zq L D t)->Std V p (T.flatMap (fX L D)++(pcM L 256 :: l))->p+bN (T.flatMap (fX L D))+(L.getD 256 0).toNat<=sz->mO R T=some R'->ju V sz L D p R=some (R',p+bN (T.flatMap (fX L D))+(L.getD 256 0).toNat):=by
 intro T;induction T with
 | nil=>
  intro p R R' _ h hs hf;simp only[mO,a0j]at hf;subst hf;simp only[a2Q,a04,iy,a1e]at h hs ⊢;exact yg (mG okL hE h hs)
 | cons t T ih=>
  intro p R R' hT h hs hf;simp only[a0W,a0U,cJ]at h hs ⊢;obtain⟨h1,h2⟩:=hT t (by simp);obtain⟨i,q,d1,d2,d3⟩:=Ko (sz:=sz) okL okD h1 h2 h (by omega);rw[tQ d1 d2,d3];simp only[a0g];simp only[mO]at hf;rcases ha:dE R t with _|x
  · rw[ha]at hf;cases hf
  · rw[ha]at hf;simp only[a0g]at hf ⊢;rw[ih (p+bN (fX L D t)) x R' (fun t' ht'=>hT t' (by simp[ht'])) (mq.1 h).2 (by omega) hf,a1W p]
theorem Ev{L:List UInt8}(hl:L.length<=300):∀(n p:Nat),L.length-p<=n->p<=L.length->mO (L.take p) (bh L p)=some L:=by
 intro n;induction n with
 | zero=>
  intro p h1 h2;have e:p=L.length:=by omega
  subst e;rw[dR (a2O _)];simp only[mO,a2s]
 | succ n ih=>
  intro p h1 h2;by_cases hp:p<L.length
  · rw[ic hp];simp only[mO];rw[BW hp hl];have h3:=fm L p;have h4:=pQ hp;exact ih _ (by omega) h4
  ·
   have e:p=L.length:=by omega
   subst e;rw[dR (a2O _)];simp only[mO,a2s]
theorem rQ{L:List UInt8}(hl:L.length<=300):mO [] (bh L 0)=some L:=Ev hl L.length 0 (by omega) (a0h _)
end Go.Proofs.YtkdlcomfpffhhaaGreatDoor
namespace Go.Proofs.YtkdlcomfpffhhaaGreatDoor
open Go.RowKit
set_option maxRecDepth 100000
theorem d8{w:World}{base g cap n c:Nat}{T:TypeId}{xs:List Value}(vs:List Value)(o:Nat)(h:w.ownsRow base T c (.slice (some ⟨g,0,none⟩) n cap) n xs):(w.setCells g o vs).ownsRow base T c (.slice (some ⟨g,0,none⟩) n cap) n (rI xs o vs):=by
 induction vs generalizing w o xs with
 | nil=>exact h
 | cons v vs ih=>exact ih (o+1) (a2m h o v).1
theorem xA{w:World}{base g n cap:Nat}{T:TypeId}{xs:List Value}(h:w.ownsRow base T 1 (.slice (some ⟨g,0,none⟩) n cap) n xs)(hr:n+1<=cap):∃y,w.ownsRow base T 1 (.slice (some ⟨g,0,none⟩) (n+1) cap) (n+1) (xs++[y]):=by
 have hx:=h.1;rcases h.2 with⟨h',_⟩|⟨g',cap',cur,h',hb,hg,hnc,hcm,hcs,htake⟩
 · simp at h'
 ·
  simp only[a0L,a0j,a0w,a0V,a1v]at h';obtain⟨rfl,rfl⟩:=h';have hlt:n<cur.toList.length:=by rw[a1G,hcs];omega
  refine⟨cur.toList[n],?_,.inr ⟨g,cap,cur,rfl,hb,hg,hr,hcm,hcs,?_⟩⟩
  · simp;omega
  · rw[a2B]at htake ⊢;rw[a1c hlt,htake]
theorem rp(w:World)(base:Nat)(T:TypeId)(cs:Array Value)(cap n:Nat)(hb:base<=w.heap.size)(hm:cap<=maxLen)(hs:cs.size=cap)(hn:n<=cap):(w.alloc (.cells cs T)).ownsRow base T 1 (.slice (some ⟨w.heap.size,0,none⟩) n cap) n (cs.toList.take n):=
 ⟨by simp;omega,.inr ⟨w.heap.size,cap,cs,rfl,hb,World.alloc_heap_new w _,hn,hm,by omega,by rw[a2B]⟩⟩
theorem jd{w w':World}{g:Nat}(h:w.grownBy w' (some g))(vs:List Value)(o:Nat):w.grownBy (w'.setCells g o vs) (some g):=by
 have hb:=below_setCells (B:=0) (a0h g) vs o w' (a0c 0 w');refine⟨hb.os.trans h.os,hb.tape.trans h.tape,hb.output.trans h.output,a0P h.size hb.size,fun k hk hne=>?_⟩;rw[cW g vs o w' k (fun e=>hne (by rw[e]))];exact h.block k hk hne
theorem qs{w w':World}{g:Nat}{row:Option Nat}(hg:w.heap.size<=g)(h:w.grownBy w' row)(vs:List Value)(o:Nat):w.grownBy (w'.setCells g o vs) row:=by
 have hb:=below_setCells (B:=0) (a0h g) vs o w' (a0c 0 w');refine⟨hb.os.trans h.os,hb.tape.trans h.tape,hb.output.trans h.output,a0P h.size hb.size,fun k hk hne=>?_⟩;rw[cW g vs o w' k (by omega)];exact h.block k hk hne
theorem KH{xs:List Value}{k:Nat}(x y:Value)(hk:k<=xs.length):rI (rI (xs++[y]) (k+1) (xs.drop k)) k [x]=xs.take k++x :: xs.drop k:=by
 have l1:(xs.take k).length=k:=by simp;omega
 obtain⟨c,hc⟩:∃c,(xs++[y]).take (k+1)=xs.take k++[c]:=⟨(xs++[y])[k]'(by simp;omega),by rw[a1c (by simp;omega),a1p hk]⟩;have e2:(xs++[y]).drop (k+1+(xs.drop k).length)=[]:=a2U (by simp;omega);rw[lw (xs.drop k) (xs++[y]) (k+1) (by simp;omega),hc,e2,a1D,lw [x] _ k (by simp;omega)];have e3:(xs.take k++[c]++xs.drop k).take k=xs.take k:=by rw[a0U];exact a13 l1
 have e4:(xs.take k++[c]++xs.drop k).drop (k+[x].length)=xs.drop k:=a3N (by simp;omega);rw[e3,e4];simp
theorem lX{w w':World}{row:Option Nat}(h:w.grownBy w' row):w.grownBy w'.drew row:=⟨h.os,h.tape,h.output,h.size,h.block⟩
theorem mS{w w':World}{row:Option Nat}(h:w.drew.grownBy w' row):w.grownBy w' row:=⟨h.os,h.tape,h.output,h.size,h.block⟩
theorem qt(w:World)(row:Option Nat):w.grownBy w row:=⟨rfl,rfl,rfl,a0a _,fun _ _ _=>rfl⟩
theorem Is{xs Z:List Value}{k n:Nat}(x:Value)(hxl:xs.length=n)(hk:k<n)(hz:Z.length=n+1-k):rI (rI (xs.take k++Z) k [x]) (k+1) (xs.drop k)=xs.take k++x :: xs.drop k:=by
 have l1:(xs.take k).length=k:=by simp;omega
 have l2:(xs.take k++[x]).length=k+1:=by simp;omega
 have l3:(xs.drop k).length=n-k:=by simp;omega
 rw[lw [x] _ k (by simp;omega),a13 l1];generalize hR:(xs.take k++Z).drop (k+[x].length)=R;have lR:R.length=n-k:=by rw[←hR];simp;omega
 rw[lw (xs.drop k) _ (k+1) (by rw[a0l,l2,l3,lR];omega),a13 l2];have d0:(xs.take k++[x]++R).drop (k+1+(xs.drop k).length)=[]:=a2G (by rw[a0l,l2,l3,lR];omega);rw[d0];simp
theorem zcS:(Value.string ⟨#[]⟩).cells.size=1:=rfl
def MI(w:World)(base n k:Nat)(v:Value)(xs:List Value)(x:ByteArray)(e:Ending)(w':World):Prop:=
 ∃u,e = .returned u/\w'.ownsRow base 9 1 u (n+1) (xs.take k ++ .string x :: xs.drop k)/\w.grownBy w' v.ownBlock
theorem zu(a:Option Addr)(cap n k vb base:Nat)(xs:List Value)(x:ByteArray)(w:World)(h:w.ownsRow base 9 1 (.slice a n cap) n xs)(hB:base<=w.heap.size)(hk:k<=n)(hm:n<=100)(h1:∀v∈xs,v.oneCell'=true)
  (hv:w.heap[vb]?=some (.cells #[.string x] 9 (0,0))) (hne:(Value.slice a n cap).ownBlock≠some vb) :
  Calls Tryz.prog 67 #[.slice a n cap,.int .i64 (k:Nat),.slice (some ⟨vb,0,none⟩) 1 1] w (MI w base n k (.slice a n cap) xs x):=by
 have hxl:xs.length=n:=by have:=h.1;omega
 have hvc:∀j v,([.string x]:List Value)[j]?=some v->w.cell? ⟨vb,0+j,none⟩=some v:=by
  intro j v hj;rw[a0A,a1g w vb j _ _ (0,0) hv];simpa using hj
 have h1v:∀v∈([.string x]:List Value),v.oneCell'=true:=by
  intro v hv;rw[a01]at hv;subst hv;rfl
 have hfv:∀j,w.frozen? ⟨vb,j,none⟩=false:=fun j=>frozen_of_row w vb j _ _ hv;have hsv:w.shape? vb=some (9,1):=by simp[World.shape?,hv]
 rcases h.2 with⟨h',h0⟩|⟨g,cap',cur,h',hb,hg,hnc,hcm,hcs,htake⟩
 ·
  simp only[a0L]at h';obtain⟨rfl,rfl,rfl⟩:=h';obtain rfl:k=0:=by omega
  obtain rfl:xs=[]:=a2h hxl;refine(Any2.slices_Insert_string_end_grow Tryz.lays2n22 none 0 0 vb 0 1 1 [] [.string x] w (by omega) (by omega) (by omega) (by omega) rfl rfl (fun _=>rfl) (fun a e=>nomatch e) hvc h1v).mono ?_;rintro e w' ⟨rfl,rfl⟩;have hge:=a3e w (0+1) 0 9;have hle:=a3f w (0+1) 0 9 (by unfold maxLen;omega);have e0:Tryz.lays2n22_ren.t 9=9:=rfl;rw[e0];generalize grownCap w (0+1) 0 9=C at hge hle ⊢;refine⟨_,rfl,?_,mS (World.grownBy_alloc w.drew _ _)⟩;have:=rp w.drew base 9 (([]++[Value.string x]).toArray++Builtin.zeroCells (Value.string ⟨#[]⟩).cells (C-(0+1))) C (0+1) hB hle (by simp[a2q,zcS];omega) hge;simpa using this
 ·
  simp only[a0L]at h';obtain⟨rfl,_,rfl⟩:=h';have hgv:vb≠g:=fun e=>hne (by rw[e];rfl);have hcell:∀j v,xs[j]?=some v->w.cell? ⟨g,0+j,none⟩=some v:=by
   intro j v hj;have:=a1f h j (by have:=(List.getElem?_eq_some_iff.1 hj).1;omega);rw[a0A,this];exact hj
  have hfg:∀j,w.frozen? ⟨g,j,none⟩=false:=fun j=>frozen_of_row w g j cur _ hg;by_cases hr:n+1<=cap
  ·
   obtain⟨y,hy⟩:=xA h hr;have hsome:∀j,j<n+1->(w.cell? ⟨g,0+j,none⟩).isSome=true:=by
    intro j hj;have:=a1f hy j (by omega);rw[a0A,this,List.getElem?_eq_getElem (by simp;omega)];rfl
   have hcap:cap<=9223372036854775807:=by unfold maxLen at hcm;omega
   by_cases hlt:k<n
   · refine(Any2.slices_Insert_string_shift Tryz.lays2n22 g 0 n cap k vb 0 1 1 xs [.string x] w hlt (by omega) hr hcap hgv hxl rfl hcell hsome (fun j _=>hfg _) hvc h1 h1v 9 9 1 cap hsv (by simp[World.shape?,hg];omega) (by omega) (hfv _) (hfv _)).mono ?_;rintro e w' ⟨rfl,rfl⟩;refine⟨_,rfl,?_,jd (jd (lX (qt w _)) _ _) _ _⟩;have e3:=d8 [.string x] (0+k) (d8 (xs.drop k) (0+(k+1)) (World.ownsRow.drew hy));rw[a0A,a0A,KH _ _ (by omega)]at e3;simpa using e3
   ·
    obtain rfl:k=n:=by omega
    refine(Any2.slices_Insert_string_end_room Tryz.lays2n22 g 0 k cap vb 0 1 1 [.string x] w (by omega) hr hcap rfl (fun j hj=>by have:=hsome (k+j) (by omega);rw[a0A]at this;rw[a0A];exact this) (fun j _=>hfg _) hvc h1v).mono ?_;rintro e w' ⟨rfl,rfl⟩;refine⟨_,rfl,?_,jd (qt w _) _ _⟩;have e3:=d8 [.string x] (0+k) hy;rw[a0A,lw _ _ _ (by simp;omega),a1p (by omega),a2G (by simp;omega)]at e3;rw[a2G (by omega)];simpa using e3
  ·
   have hge:=a3e w (n+1) cap 9;have hle:=a3f w (n+1) cap 9 (by unfold maxLen;omega);obtain⟨C,hC⟩:∃C,grownCap w (n+1) cap 9=C:=⟨_,rfl⟩;rw[hC]at hge hle;by_cases hlt:k<n
   ·
    refine(Any2.slices_Insert_string_grow Tryz.lays2n22 g 0 n cap k vb 0 1 1 xs [.string x] w hlt (by omega) hnc (by omega) (by omega) hxl rfl hcell hvc h1 h1v).mono ?_;rintro e w' ⟨rfl,rfl⟩;have e0:Tryz.lays2n22_ren.t 9=9:=rfl;rw[e0,hC];refine⟨_,rfl,?_,qs (a0a _) (lX (qs (a0a _) (lX (World.grownBy_alloc w _ _)) _ _)) _ _⟩;have n0:=rp w base 9 ((xs.take k).toArray++Builtin.zeroCells (Value.string ⟨#[]⟩).cells (n+1-k)++Builtin.zeroCells (Value.string ⟨#[]⟩).cells (C-(n+1))) C (n+1) hB hle (by simp[a2q,zcS];omega) hge;have l1:(xs.take k).length=k:=by simp;omega
    have z0:((xs.take k).toArray++Builtin.zeroCells (Value.string ⟨#[]⟩).cells (n+1-k)++Builtin.zeroCells (Value.string ⟨#[]⟩).cells (C-(n+1))).toList.take (n+1)=xs.take k++(Builtin.zeroCells (Value.string ⟨#[]⟩).cells (n+1-k)).toList:=by
     rw[a1R];rw[a13 (by simp[a2q,zcS];omega)];simp
    have z1:(Builtin.zeroCells (Value.string ⟨#[]⟩).cells (n+1-k)).toList.length=n+1-k:=by simp[a2q,zcS]
    rw[z0]at n0;generalize (Builtin.zeroCells (Value.string ⟨#[]⟩).cells (n+1-k)).toList=Z at n0 z1;have e3:=d8 (xs.drop k) (k+1) (World.ownsRow.drew (d8 [.string x] k (World.ownsRow.drew n0)));rw[Is (.string x) hxl hlt z1]at e3;simpa using e3
   ·
    obtain rfl:k=n:=by omega
    refine(Any2.slices_Insert_string_end_grow Tryz.lays2n22 (some ⟨g,0,none⟩) k cap vb 0 1 1 xs [.string x] w (by omega) hnc (by omega) (by omega) hxl rfl (fun e=>nomatch e) (fun a e j v hj=>by cases e;exact a2i h rfl j v hj) hvc h1v).mono ?_;rintro e w' ⟨rfl,rfl⟩;have e0:Tryz.lays2n22_ren.t 9=9:=rfl;rw[e0,hC];refine⟨_,rfl,?_,mS (World.grownBy_alloc w.drew _ _)⟩;have n0:=rp w.drew base 9 ((xs++[Value.string x]).toArray++Builtin.zeroCells (Value.string ⟨#[]⟩).cells (C-(k+1))) C (k+1) hB hle (by simp[a2q,zcS];omega) hge;rw[a1R,a13 (by simp;omega)]at n0;rw[a0s (by omega),a2G (by omega)];exact n0
end Go.Proofs.YtkdlcomfpffhhaaGreatDoor
