/- Of what the proof is made: 5 texts, one behind the other. -/
import Derived.Test.YtgmfehnnebkaoaaGreatDoorM34
import Derived.Test.YtgmfehnnebkaoaaGreatDoorM27
import Derived.Test.YtgmfehnnebkaoaaGreatDoorM21
import Derived.Test.YtgmfehnnebkaoaaGreatDoorM29
import Derived.Test.YtgmfehnnebkaoaaGreatDoorM32
import Derived.Test.YtgmfehnnebkaoaaGreatDoorM35
set_option linter.unusedSimpArgs false
set_option linter.unusedVariables false
namespace Go.Proofs.YtgmfehnnebkaoaaGreatDoor
open Go.RowKit Corb
variable {V p sz:Nat}{a:List Int}{l:List (Int×Int)}
theorem lQ(l:List UInt8):(⟨l.toArray⟩:ByteArray).size=l.length:=by simp[ByteArray.size]
theorem FR: ∀(L:List UInt8) (p:Nat) (R:List UInt8),Std V p (bC L++l)->p+8*L.length<=sz->R.length+L.length<=300->iY V sz L.length p R=some (R++L,p+8*L.length):=by
 intro L;induction L with
 | nil=>intro p R _ _ _;simp[iY]
 | cons b L ih=>
  intro p R h f d;rw[a0A]at f d ⊢;have e:bC (b :: L)++l=(((b.toNat:Nat):Int),(8:Int)) :: (bC L++l):=rfl;rw[e]at h;have c:=qF (sz:=sz) h (by show p+8<=sz;omega);simp only[a0l]at c;have a:rdN V sz p 8=some (b.toNat,p+8):=c;have hb:=b.toNat_lt;simp only[iY];rw[a];simp only[a0f];rw[FO R b.toNat hb,a0d (by omega)];simp only[a0f];rw[y6,ih (p+8) (R++[b]) h.2 (by omega) (by rw[a0i,a1j];omega)];simp only[a0O,List.singleton_append,a0k,a0W,a1W];omega
theorem Ij{c:Nat}{L R:List UInt8}(g:(8-p%8)%8=c)(h:Std V p (((0:Int),(c:Int)) :: ((L.length:Int),(16:Int)) :: (((65535-L.length:Nat):Int),(16:Int)) :: (bC L++l)))(k:p+c+32+8*L.length<=sz)(f:R.length+L.length<=300) :
  jg V sz p R=some (R++L,p+c+32+8*L.length):=by
 have d:=h.1;have a:=h.2;have h2:=a.2;have e:=h2.2;simp only[a0l,Int.toNat_zero]at d a h2 e;unfold jg kH;rw[g,a0d d];simp only[a0f];have i:rdN V sz (p+c) 16=some (L.length,p+c+16):=qF (sz:=sz) a (by show p+c+16<=sz;omega);have j:rdN V sz (p+c+16) 16=some (65535-L.length,p+c+16+16):=qF (sz:=sz) h2 (by show p+c+16+16<=sz;omega);rw[i];simp only[a0f];rw[j];simp only[a0f,a0Z];have b:Std V (p+c+16+16) (bC L++l):=e;rw[FR L _ R b (by omega) f]
theorem oo{k:Nat}{T:List UInt8}{r:List UInt8×Nat}(h:Std V p (((1:Int),(1:Int)) :: ((k:Int),(2:Int)) :: l))(d:p+1+2<=sz)(a:gB V sz k (p+1+2) T=some r):iE V sz p T=some r:=by
 have b:rdN V sz p 1=some (1,p+1):=qF (sz:=sz) h (by show p+1<=sz;omega);have h2:=h.2;have c:rdN V sz (p+1) 2=some (k,p+1+2):=by
  have:=qF (sz:=sz) h2 (by show p+1+2<=sz;omega);simpa using this
 rw[ry,b];simp only[a0f];rw[c];simp only[a0f];rw[a];rfl
theorem Lz{M:Nat}(h:V<2 ^ M):kH V M=some (M+(8-M%8)%8):=by
 unfold kH;rw[a1T h,Nat.zero_mod,a0d rfl]
theorem tk{P:List (Int×Int)}{T:List UInt8}(a:lOk P=true)(f:(cz P).length<=700)(e:iE (aV P).1 (8*(cz P).length) 0 []=some (T,(aV P).2)):du ⟨(cz P).toArray⟩=some (T,8*(cz P).length):=by
 have d:(cz P).length=((aV P).2+7)/8:=by unfold cz;exact aF _ _
 have c:=Mn a;rw[ea a]at c;have b:(aV P).1<2 ^ (aV P).2:=yJ P (by unfold lOk at a;simp only[a0j]at a;exact a.1);unfold du lA;rw[a0d (by rw[lQ];exact f)];have e1:aE ⟨(cz P).toArray⟩=(aV P).1:=by unfold aE;simpa using c
 have e2:(⟨(cz P).toArray⟩:ByteArray).size=(cz P).length:=lQ _;rw[e1,e2,e];simp only[a0f];rw[Lz b];simp only[a0f,a0k,a0W,a1W];rw[d];omega
theorem oI{P:List (Int×Int)}(a:lOk P=true):bN P=(aV P).2/\bN P<=8*(cz P).length/\Std (aV P).1 0 P:=by
 have h:aW P=true:=by unfold lOk at a;simp only[a0j]at a;exact a.1
 have b:=Ik h;have c:(cz P).length=((aV P).2+7)/8:=by unfold cz;exact aF _ _
 have h2:=N8 0 h;rw[Nat.zero_mul,a05]at h2;refine⟨b,?_,h2⟩;unfold bN;rw[b,c];omega
theorem I7(L:List UInt8):bN (bC L)=8*L.length:=by
 induction L with
 | nil=>rfl
 | cons b L ih=>
  have e:bC (b :: L)=(((b.toNat:Nat):Int),(8:Int)) :: bC L:=rfl;rw[e,eQ,ih,a0A];simp only[Int.reduceToNat];omega
theorem wL(L:List UInt8)(h:L.length<=300):lOk (ep L.length++bC L)=true:=by
 have a:=ts L.length (by omega);have h2:=nV L (by omega);unfold lOk at a h2 ⊢;simp only[a0j,a0p]at a h2 ⊢;rw[oH,a.1,h2.1,a0i,kV];refine⟨rfl,?_⟩;have:(ep L.length).length=5:=rfl;omega
theorem Bw(L:List UInt8)(h:L.length<=300):cz (ep L.length++bC L)=fs L:=by
 rw[←ea (wL L h),wM L h];unfold fs;rw[a0d h]
theorem uU(L:List UInt8)(h:L.length<=300):(fs L).length=L.length+5:=by
 unfold fs;rw[a0d h,a0i,aF];omega
theorem zG(L:List UInt8)(h:L.length<=300):du ⟨(fs L).toArray⟩=some (L,8*(L.length+5)):=by
 have d:=wL L h;obtain⟨e,f,b⟩:=oI d;have a:=uU L h;rw[←Bw L h]at a ⊢;rw[a]at f;have hb:bN (ep L.length++bC L)=40+8*L.length:=by
  rw[dw,I7];rfl
 have:=tk (T:=L) d (by omega) (by
  rw[a,←e,hb];refine oo (k:=0) b (by omega) ?_;unfold gB;rw[a0d rfl];have g:=Ij (R:=[]) (V:=(aV (ep L.length++bC L)).1) (sz:=8*(L.length+5)) (p:=0+1+2) (c:=5) (L:=L) (l:=[]) (by decide) (by rw[a1b];exact b.2.2) (by omega) (by simpa using h);rw[g];simp only[a0X])
 rw[this,a]
theorem M6:(List.range 288).all (fun i=>decide (0<(bQ 288).getD i 0)&&decide ((bQ 288).getD i 0<=9))=true:=by decide +kernel
theorem JF:(List.range 32).all (fun i=>decide (gE.getD i 0=5))=true:=by decide +kernel
theorem De{i:Nat}(h:i<288):0<(bQ 288).getD i 0/\(bQ 288).getD i 0<=9:=by
 have:=a03.1 M6 i (List.mem_range.2 h);simpa using this
theorem EO{i:Nat}(h:i<32):gE.getD i 0=5:=by
 have:=a03.1 JF i (List.mem_range.2 h);simpa using this
theorem Kd{t:Tk}(a:okT t=true):Dm (bQ 288) gE t:=by
 have:=iT a;unfold fB at this;unfold Dm
 split
 .
  rename_i hB;rw[a0d hB]at this;have l1:(bQ 288).length=288:=by decide +kernel
  exact(De (by omega)).1
 .
  rename_i hB;rw[a0e hB]at this;have l1:(bQ 288).length=288:=by decide +kernel
  have l2:gE.length=32:=by decide +kernel
  refine⟨(De (by omega)).1,?_⟩;rw[EO (by omega)];omega
theorem JK:(List.range 61).all (fun y=>decide (y<3) || decide (((bQ 288).getD (257+fnd 3 4 y 27) 0).toNat+(stF 3 4 (fnd 3 4 y 27)).2+11<=9*y))=true:=by decide +kernel
theorem JI:(List.range 251).all (fun y=>decide (y<1) || decide ((stF 1 2 (fnd 1 2 y 29)).2<=6))=true:=by decide +kernel
theorem JJ{t:Tk}(d:okT t=true):bN (cw (bQ 288) gE t)<=9*(if isB t then 1 else t.2.1.toNat):=by
 obtain⟨y,lo,b⟩:=t;unfold cw;by_cases a:isB (y,lo,b)=true
 .
  rw[a0d a,a0d a,eQ,jK,lR];have hb:0<=y/\y<=255:=by unfold isB inB at a;simp only[a0j,a0p]at a;omega
  have:=De (i:=y.toNat) (by omega);show((bQ 288).getD y.toNat 0).toNat+0<=9*1;omega
 .
  rw[a0e a,a0e a];have c:isK (y,lo,b)=true:=by unfold okT at d;simpa[a]using d
  have hb:y=0/\3<=lo/\lo<=60/\1<=b/\b<=250:=by unfold isK inB at c;simp only[a0j,a0p]at c;omega
  obtain⟨rfl,e,f,h,j⟩:=hb;obtain⟨x,rfl⟩:=a0n (show 0<=lo by omega);obtain⟨z,rfl⟩:=a0n (show 0<=b by omega);have f1:=a03.1 JK x (List.mem_range.2 (by omega));have f2:=a03.1 JI z (List.mem_range.2 (by omega));simp only[a1f,a0p]at f1 f2;have g:=EO (i:=fnd 1 2 z 29) (by have:=gn 1 2 z 29;omega);simp only[eQ,jK,lR,a0l];rw[g];omega
theorem M7{L:List UInt8} : ∀(n p:Nat),L.length-p<=n->bN ((bh L p).flatMap (cw (bQ 288) gE))<=9*(L.length-p):=by
 intro n;induction n with
 | zero=>
  intro p h;rw[ef (by omega)];exact a0g _
 | succ n ih=>
  intro p h;by_cases d:p<L.length
  .
   have a:=wW L L.length p (by omega);rw[gX d]at a ⊢;have e:=JJ (a (ff L p) (by simp));have g:=gu L p;have i:=pC d;have j:=ih (p+iv L p) (by omega);have f:(if isB (ff L p)then 1 else(ff L p).2.1.toNat)=iv L p:=by
    unfold ff iv;by_cases b:(aY L p (min p 250)).1<3
    .
     have c:isB ((((L.getD p 0).toNat:Nat):Int),0,0)=true:=by
      have:=(L.getD p 0).toNat_lt;generalize (L.getD p 0).toNat=y at *
      unfold isB inB;simp;omega
     rw[a0d b,a0d b,c];rfl
    .
     have c:isB (0,((aY L p (min p 250)).1:Int),((aY L p (min p 250)).2:Int))=false:=by
      unfold isB;simp;omega
     rw[a0e b,a0e b,c];simp
   rw[f]at e;rw[a0S,dw];omega
  . rw[ef d];exact a0g _
theorem vS(s:ByteArray):bN (gK s)=1+2+bN ((bh s.data.toList 0).flatMap (cw (bQ 288) gE))+7:=by
 unfold gK;rw[dw,dw];have e1:bN [((1:Int),(1:Int)),((1:Int),(2:Int))]=3:=rfl;have e2:bN [pcM (bQ 288) 256]=7:=by
  rw[eQ,jK,lR];decide +kernel
 rw[e1,e2];omega
theorem tR(s:ByteArray)(h:s.size<=300):(dL s).length<=340/\2<=(dL s).length:=by
 have b:=oS s h;obtain⟨a,d,f⟩:=oI b;have e:=vS s;have e2:=M7 (L:=s.data.toList) s.data.toList.length 0 (by omega);have e3:s.data.toList.length=s.size:=by simp
 have c:(dL s).length=((aV (gK s)).2+7)/8:=by unfold dL cz;exact aF _ _
 rw[c,←a,e];omega
theorem zF(s:ByteArray)(h:s.size<=300):du ⟨(dL s).toArray⟩=some (s.data.toList,8*(dL s).length):=by
 have f:=oS s h;obtain⟨g,i,d⟩:=oI f;have m:=(tR s h).1;have e:=vS s;have e3:s.data.toList.length=s.size:=by simp
 have b:(bQ 288).getD 256 0=7:=by decide +kernel
 refine tk f (show(dL s).length<=700 by omega) ?_;have j:bN (gK s)<=8*(dL s).length:=i;show iE (aV (gK s)).1 (8*(dL s).length) 0 []=some (s.data.toList,(aV (gK s)).2);refine oo (k:=1) d (by omega) ?_;unfold gB Dc;rw[a0e (by decide),a0d rfl];have a:=Fw (L:=bQ 288) (D:=gE) ip mq (V:=(aV (gK s)).1) (sz:=8*(dL s).length) (by rw[b];omega) (l:=[]) (bh s.data.toList 0) (0+1+2) [] s.data.toList (fun t a=>⟨eq s t a,Kd (eq s t a)⟩) d.2.2 (by rw[b];simp only[Int.reduceToNat];omega) (vd (by omega));rw[b]at a;simp only[Int.reduceToNat]at a;have c:lx (aV (gK s)).1 (8*(dL s).length) (bQ 288) (List.replicate 32 5) (0+1+2) []=_:=a;rw[c,←g,e]
theorem OL(s:ByteArray)(h:s.size<=300):du (byS s)=some (s.data.toList,8*(byS s).size)/\(byS s).size=s.size+5:=by
 have b:s.data.toList.length=s.size:=iQ s;have a:=zG s.data.toList (by omega);have h2:=uU s.data.toList (by omega);unfold byS;rw[lQ,a,h2,b];exact⟨rfl,rfl⟩
theorem OI(s:ByteArray)(h:s.size<=300):du (byF s)=some (s.data.toList,8*(byF s).size)/\2<=(byF s).size/\(byF s).size<=340:=by
 have a:=zF s h;have h2:=tR s h;unfold byF kZ;rw[a0d h,lQ,a];exact⟨rfl,h2.2,h2.1⟩
theorem xZ{r:List Int}(c:r.length=a.length)(h:∀j,j<a.length->r.getD j 0=a.getD j 0):r=a:=by
 apply a2p c;intro j b h2;have:=h j h2;simpa[List.getD,b,h2]using this
theorem OY: ∀(is:List Nat) (p:Nat) (r:List Int),Std V p (is.map (fun i=>(a.getD i 0,(3:Int)))++l)->(∀i∈is,0<=a.getD i 0/\i<r.length)->∀j,(lbV V is p r).getD j 0=if j∈is then a.getD j 0 else r.getD j 0:=by
 intro is;induction is with
 | nil=>intro p r _ _ j;simp[lbV]
 | cons i is ih=>
  intro p r h c j;rw[a0C,a1g]at h;have d:V/2 ^ p%2 ^ 3=(a.getD i 0).toNat:=h.1;have h2:=h.2;obtain⟨i1,i2⟩:=c i (by simp);simp only[lbV];rw[d,a28 i1,ih (p+3) _ h2 (fun k f=>by rw[a1w];exact c k (by simp[f])) j];by_cases b:j∈is
  . rw[a0d b,a0d (by simp[b])]
  .
   rw[a0e b];by_cases e:j=i
   . subst e;rw[a0d (by simp)];simp[List.getD,i2]
   . rw[a0e (by simp[b,e])];simp[List.getD,Ne.symm e]
theorem OZ(f:a.length=19)(e:∀i,i<19->0<=a.getD i 0)(h:Std V p (bB.map (fun i=>(a.getD i 0,(3:Int)))++l)):lbV V bB p (List.replicate 19 0)=a:=by
 have b:∀i∈bB,i<19:=by decide
 have c:∀i,i<19->i∈bB:=by decide
 have g:=OY (a:=a) bB p (List.replicate 19 0) h (fun i d=>⟨e i (b i d),by rw[a0y];exact b i d⟩);have k:(lbV V bB p (List.replicate 19 0)).length=19:=by rw[Nq,a0y]
 exact xZ (by rw[k,f]) (fun j m=>by rw[g j,a0d (c j (by omega))])
theorem Pa{B:List Int}(b:av B=true) : ∀(A R:List Int) (p:Nat),(∀x∈A,0<=x/\x<=15/\0<B.getD x.toNat 0)->Std V p (A.map (fun x=>pcM B x.toNat)++l)->p+bN (A.map (fun x=>pcM B x.toNat))<=sz->lnG V sz B (R.length+A.length) p R=some (R++A,p+bN (A.map (fun x=>pcM B x.toNat))):=by
 intro A;induction A with
 | nil=>
  intro R p _ _ a;rw[a1I,jK,a05]at a;rw[Ax a (by simp),a0d (by simp),a1b,a1I,jK,a05]
 | cons x A ih=>
  intro R p c h a;rw[a0C,eQ,lR]at a ⊢;rw[a0C,a1g]at h;obtain⟨a1,a2,a3⟩:=c x (by simp);rw[a0A,Aw (by omega) (by omega),oN b a3 h (by omega)];simp only[a0f];have e:ig V sz R ((x.toNat:Nat):Int) (p+(B.getD x.toNat 0).toNat)=some (R++[x],p+(B.getD x.toNat 0).toNat):=by
   rw[a28 a1];unfold ig;rw[a0e (by omega),a0e (by omega),a0e (by omega)]
  rw[e];simp only[a0f];have:=ih (R++[x]) (p+(B.getD x.toNat 0).toNat) (fun y d=>c y (by simp[d])) h.2 (by omega);rw[a0i,a1j]at this;rw[show R.length+(A.length+1)=R.length+1+A.length by omega,this];simp only[a0O,List.singleton_append,a0k,a0W,a1W];omega
theorem pR(a:List Int)(is:List Nat):bN (is.map (fun i=>(a.getD i 0,(3:Int))))=3*is.length:=by
 induction is with
 | nil=>rfl
 | cons i is ih=>
  rw[a0C,eQ,ih,a0A];simp only[Int.reduceToNat];omega
theorem Ko{L D:List Int}(r:av L=true)(q:av D=true)(l0:257<=L.length)(l1:L.length<=286)(y:1<=D.length)(z:D.length<=30)(h:Std V p (cV L D++l))(u:p+bN (cV L D)<=sz) :
  Ar V sz p=some (L.length,L++D,p+bN (cV L D)):=by
 have g:∀x∈L++D,0<=x/\x<=15:=by
  intro x f;rcases a0V.1 f with h|h
  . exact jz r x h
  . exact jz q x h
 have j:(L++D).length=L.length+D.length:=a0i;obtain⟨v,s,w⟩:=ub (L++D) (by omega) (by omega) g;have b:=GE (L++D) (by omega) (by omega) g;have e:cV L D++l=((L.length:Int)-257,(5:Int)) :: ((D.length:Int)-1,(5:Int)) :: ((15:Int),(4:Int)) :: (bB.map (fun i=>((aM (L++D)).getD i 0,(3:Int)))++((L++D).map (fun x=>pcM (aM (L++D)) x.toNat)++l)):=by
  unfold cV;simp only[a1g,a0X,a0O]
 have eb:bN (cV L D)=5+5+4+3*19+bN ((L++D).map (fun x=>pcM (aM (L++D)) x.toNat)):=by
  unfold cV;rw[dw,dw,pR];have e1:bN [((L.length:Int)-257,(5:Int)),((D.length:Int)-1,(5:Int)),((15:Int),(4:Int))]=14:=rfl;have e2:bB.length=19:=rfl;rw[e1,e2];omega
 rw[e]at h;rw[eb]at u ⊢;generalize A:aM (L++D)=B at *
 have x1:V/2 ^ p%2 ^ 5=L.length-257:=by have:=h.1;simp only[Int.reduceToNat]at this;omega
 have h2:Std V (p+5) _:=h.2;have x2:V/2 ^ (p+5)%2 ^ 5=D.length-1:=by have:=h2.1;simp only[Int.reduceToNat]at this;omega
 have m:Std V (p+5+5) _:=h2.2;have x3:V/2 ^ (p+5+5)%2 ^ 4=15:=by have:=m.1;simp only[Int.reduceToNat]at this;exact this
 have n:Std V (p+5+5+4) _:=m.2;have k:=OZ (a:=B) v (fun i t=>(w i t).1) n;have o:=(oy.1 n).2;rw[pR,show bB.length=19 from rfl]at o;have c:lbV V (bB.take (15+4)) (p+5+5+4) (List.replicate 19 0)=B:=by
  rw[show bB.take (15+4)=bB from rfl];exact k
 rw[Km (by omega) x1 x2 x3 c,a0d ⟨by omega,s,by omega,by omega⟩];have d:=Pa s (sz:=sz) (L++D) [] (p+5+5+4+3*(15+4)) (fun x f=>⟨(g x f).1,(g x f).2,b x f⟩) o (by omega);rw[a0R,a0H,j,a0X]at d;rw[show L.length-257+257+(D.length-1+1)=L.length+D.length by omega,show L.length-257+257=L.length by omega,d];simp only[a0f];rw[List.take_left',List.drop_left',a0d ⟨r,q⟩]
 . simp only[a0k,a0W,a1W];omega
 . rfl
 . rfl
theorem Lh(T:List Tk)(c:T.length<=300)(b:∀t∈T,okT t=true)(t:Tk)(d:t∈T):Dm (bw T) (bY T) t:=by
 obtain⟨a,h2⟩:=Ff T c b t d;unfold ir at a;unfold dX at h2;unfold Dm
 split
 . rename_i h;rw[a0d h]at a;exact a
 . rename_i h;rw[a0e h]at a h2;exact⟨a,h2 _ (by simp)⟩
theorem wD(T:List Tk):bN (iD T)=1+2+bN (cV (bw T) (bY T))+bN (T.flatMap (cw (bw T) (bY T)))+((bw T).getD 256 0).toNat:=by
 unfold iD;rw[dw,dw,dw,eQ (pcM (bw T) 256),jK,lR];have e1:bN [((1:Int),(1:Int)),((2:Int),(2:Int))]=3:=rfl;rw[e1];omega
theorem Lf(s:ByteArray)(h:s.size<=300):9<=(lM s).length:=by
 have c:=iy s h;have b:=sC (bh s.data.toList 0) c (eq s);obtain⟨a,f,g⟩:=oI b;have e:=wD (bh s.data.toList 0);have d:(lM s).length=((aV (iD (bh s.data.toList 0))).2+7)/8:=by unfold lM cz;exact aF _ _
 have eb:71<=bN (cV (bw (bh s.data.toList 0)) (bY (bh s.data.toList 0))):=by
  unfold cV;rw[dw,dw,pR];have e2:bB.length=19:=rfl;rw[e2,eQ,eQ,eQ];simp only[Int.reduceToNat];omega
 rw[d,←a,e];omega
theorem Gi(s:ByteArray)(h:s.size<=300)(g:(lM s).length<=700):du ⟨(lM s).toArray⟩=some (s.data.toList,8*(lM s).length):=by
 have a:=iy s h;have b:=eq s;have e3:s.data.toList.length=s.size:=by simp
 have o:=vd (L:=s.data.toList) (by omega);unfold lM at g ⊢;generalize bh s.data.toList 0=T at *
 have d:=sC T a b;obtain⟨i,p,c⟩:=oI d;have e:=wD T;refine tk d g ?_;generalize 8*(cz (iD T)).length=sz at *
 generalize (aV (iD T)).1=V at *
 obtain⟨l0,l1⟩:=jd T a;obtain⟨j,m⟩:=kG T a;have n:=AX T a 256 (.inl rfl) (by omega);refine oo (k:=2) c (by omega) ?_;have s3:Std V (0+1+2) (cV (bw T) (bY T)++(T.flatMap (cw (bw T) (bY T))++[pcM (bw T) 256])):=c.2.2;unfold gB;rw[a0e (by decide),a0e (by decide),a0d rfl,Ha,Ko (fJ T a) (ie T a) l0 l1 j m s3 (by omega)];simp only[a0f];rw[List.take_left',List.drop_left']
 . have s4:=(oy.1 s3).2;rw[Fw (fJ T a) (ie T a) n (l:=[]) T _ [] s.data.toList (fun t f=>⟨b t f,Lh T a b t f⟩) s4 (by omega) o,←i,e]
 . rfl
 . rfl
theorem OJ(s:ByteArray)(h:s.size<=300):((byO s).size<=700->du (byO s)=some (s.data.toList,8*(byO s).size))/\2<=(byO s).size:=by
 have h2:=Lf s h;unfold byO ln;rw[a0d h,lQ];exact⟨fun a=>Gi s h a,by omega⟩
theorem Dg(s:ByteArray)(h:s.size<=300):du (bR s)=some (s.data.toList,8*(bR s).size)/\(bR s).size<=s.size+5/\2<=(bR s).size/\(bR s).size<=(byS s).size/\(bR s).size<=(byF s).size/\(bR s).size<=(byO s).size/\(bR s=byS s∨bR s=byF s∨bR s=byO s):=by
 obtain⟨a1,a2⟩:=OL s h;obtain⟨a,b,c⟩:=OI s h;obtain⟨c1,c2⟩:=OJ s h;unfold bR;by_cases e1:(byF s).size<(byS s).size
 .
  rw[eM e1];by_cases e2:(byO s).size<(byF s).size
  . rw[eM e2];exact⟨c1 (by omega),by omega,c2,by omega,by omega,a0a _,.inr (.inr rfl)⟩
  . rw[fX e2];exact⟨a,by omega,b,by omega,a0a _,by omega,.inr (.inl rfl)⟩
 .
  rw[fX e1];by_cases e2:(byO s).size<(byS s).size
  . rw[eM e2];exact⟨c1 (by omega),by omega,c2,by omega,by omega,a0a _,.inr (.inr rfl)⟩
  . rw[fX e2];exact⟨a1,by omega,by omega,a0a _,by omega,by omega,.inl rfl⟩
end Go.Proofs.YtgmfehnnebkaoaaGreatDoor
