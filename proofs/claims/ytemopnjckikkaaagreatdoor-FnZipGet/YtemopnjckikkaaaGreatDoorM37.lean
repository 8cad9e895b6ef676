/- Texts. -/
import Derived.Test.YtemopnjckikkaaaGreatDoorM36
import Derived.Test.YtemopnjckikkaaaGreatDoorM32
set_option linter.all false
namespace Go.Proofs.YtemopnjckikkaaaGreatDoor
open Go.RowKit Corb
variable {V p sz:Nat}{a:List Int}{l:List (Int×Int)}
def mr(l:List UInt8):(⟨l.toArray⟩:ByteArray).size=l.length:=by simp[ByteArray.size]
def GU: ∀(L:List UInt8) (p:Nat) (R:List UInt8),Std V p (bQ L++l)->p+8*L.length<=sz->R.length+L.length<=300->dB V sz L.length p R=some (R++L,p+8*L.length):=by
 intro L;induction L with
 | nil=>intro p R _ _ _;simp[dB]
 | cons b L ih=>
  intro p R h f d;rw[a0A]at f d ⊢;have e:bQ (b :: L)++l=(((b.toNat:Nat):Int),(8:Int)) :: (bQ L++l):=rfl;rw[e]at h;have c:=rq (sz:=sz) h (by show p+8<=sz;omega);simp only[a0n]at c;have a:rdN V sz p 8=some (b.toNat,p+8):=c;have hb:=b.toNat_lt;simp only[dB];rw[a];simp only[a0e];rw[kY R b.toNat hb,a0c (by omega)];simp only[a0e];rw[zN,ih (p+8) (R++[b]) h.2 (by omega) (by rw[a0i,a1d];omega)];simp only[a0I,List.singleton_append,a0j,a0O,a1A];omega
def Jo{c:Nat}{L R:List UInt8}(g:(8-p%8)%8=c)(h:Std V p (((0:Int),(c:Int)) :: ((L.length:Int),(16:Int)) :: (((65535-L.length:Nat):Int),(16:Int)) :: (bQ L++l)))(k:p+c+32+8*L.length<=sz)(f:R.length+L.length<=300) :
  dD V sz p R=some (R++L,p+c+32+8*L.length):=by
 have d:=h.1;have a:=h.2;have h2:=a.2;have e:=h2.2;simp only[a0n,Int.toNat_zero]at d a h2 e;unfold dD fL;rw[g,a0c d];simp only[a0e];have i:rdN V sz (p+c) 16=some (L.length,p+c+16):=rq (sz:=sz) a (by show p+c+16<=sz;omega);have j:rdN V sz (p+c+16) 16=some (65535-L.length,p+c+16+16):=rq (sz:=sz) h2 (by show p+c+16+16<=sz;omega);rw[i];simp only[a0e];rw[j];simp only[a0e,a0S];have b:Std V (p+c+16+16) (bQ L++l):=e;rw[GU L _ R b (by omega) f]
def oO{k:Nat}{T:List UInt8}{r:List UInt8×Nat}(h:Std V p (((1:Int),(1:Int)) :: ((k:Int),(2:Int)) :: l))(d:p+1+2<=sz)(a:fJ V sz k (p+1+2) T=some r):fQ V sz p T=some r:=by
 have b:rdN V sz p 1=some (1,p+1):=rq (sz:=sz) h (by show p+1<=sz;omega);have h2:=h.2;have c:rdN V sz (p+1) 2=some (k,p+1+2):=by
  have:=rq (sz:=sz) h2 (by show p+1+2<=sz;omega);simpa using this
 rw[mW,b];simp only[a0e];rw[c];simp only[a0e];rw[a];rfl
def MQ{M:Nat}(h:V<2 ^ M):fL V M=some (M+(8-M%8)%8):=by
 unfold fL;rw[a1J h,Nat.zero_mod,a0c rfl]
def tX{P:List (Int×Int)}{T:List UInt8}(a:lOk P=true)(f:(ct P).length<=700)(e:fQ (aU P).1 (8*(ct P).length) 0 []=some (T,(aU P).2)):cF ⟨(ct P).toArray⟩=some (T,8*(ct P).length):=by
 have d:(ct P).length=((aU P).2+7)/8:=by unfold ct;exact aB _ _
 have c:=Nx a;rw[dK a]at c;have b:(aU P).1<2 ^ (aU P).2:=zv P (by unfold lOk at a;simp only[a0k]at a;exact a.1);unfold cF fq;rw[a0c (by rw[mr];exact f)];have e1:ak ⟨(ct P).toArray⟩=(aU P).1:=by unfold ak;simpa using c
 have e2:(⟨(ct P).toArray⟩:ByteArray).size=(ct P).length:=mr _;rw[e1,e2,e];simp only[a0e];rw[MQ b];simp only[a0e,a0j,a0O,a1A];rw[d];omega
def po{P:List (Int×Int)}(a:lOk P=true):bN P=(aU P).2/\bN P<=8*(ct P).length/\Std (aU P).1 0 P:=by
 have h:aY P=true:=by unfold lOk at a;simp only[a0k]at a;exact a.1
 have b:=Jp h;have c:(ct P).length=((aU P).2+7)/8:=by unfold ct;exact aB _ _
 have h2:=PD 0 h;rw[Nat.zero_mul,a09]at h2;refine⟨b,?_,h2⟩;unfold bN;rw[b,c];omega
def Kf(L:List UInt8):bN (bQ L)=8*L.length:=by
 induction L with
 | nil=>rfl
 | cons b L ih=>
  have e:bQ (b :: L)=(((b.toNat:Nat):Int),(8:Int)) :: bQ L:=rfl;rw[e,ft,ih,a0A];simp only[Int.reduceToNat];omega
def xD(L:List UInt8)(h:L.length<=300):lOk (eQ L.length++bQ L)=true:=by
 have a:=ub L.length (by omega);have h2:=oC L (by omega);unfold lOk at a h2 ⊢;simp only[a0k,a0s]at a h2 ⊢;rw[pm,a.1,h2.1,a0i,lA];refine⟨rfl,?_⟩;have:(eQ L.length).length=5:=rfl;omega
def Cr(L:List UInt8)(h:L.length<=300):ct (eQ L.length++bQ L)=fS L:=by
 rw[←dK (xD L h),xE L h];unfold fS;rw[a0c h]
def vH(L:List UInt8)(h:L.length<=300):(fS L).length=L.length+5:=by
 unfold fS;rw[a0c h,a0i,aB];omega
def As(L:List UInt8)(h:L.length<=300):cF ⟨(fS L).toArray⟩=some (L,8*(L.length+5)):=by
 have d:=xD L h;obtain⟨e,f,b⟩:=po d;have a:=vH L h;rw[←Cr L h]at a ⊢;rw[a]at f;have hb:bN (eQ L.length++bQ L)=40+8*L.length:=by
  rw[dE,Kf];rfl
 have:=tX (T:=L) d (by omega) (by
  rw[a,←e,hb];refine oO (k:=0) b (by omega) ?_;unfold fJ;rw[a0c rfl];have g:=Jo (R:=[]) (V:=(aU (eQ L.length++bQ L)).1) (sz:=8*(L.length+5)) (p:=0+1+2) (c:=5) (L:=L) (l:=[]) (by decide) (by rw[a01];exact b.2.2) (by omega) (by simpa using h);rw[g];simp only[a04])
 rw[this,a]
def Ot:(List.range 288).all (fun i=>decide (0<(bW 288).getD i 0)&&decide ((bW 288).getD i 0<=9))=true:=by decide +kernel
def Lb:(List.range 32).all (fun i=>decide (ib.getD i 0=5))=true:=by decide +kernel
def Ee{i:Nat}(h:i<288):0<(bW 288).getD i 0/\(bW 288).getD i 0<=9:=by
 have:=a08.1 Ot i (List.mem_range.2 h);simpa using this
def FY{i:Nat}(h:i<32):ib.getD i 0=5:=by
 have:=a08.1 Lb i (List.mem_range.2 h);simpa using this
def LD{t:Tk}(a:okT t=true):El (bW 288) ib t:=by
 have:=jE a;unfold fX at this;unfold El
 split
 .
  rename_i hB;rw[a0c hB]at this;have l1:(bW 288).length=288:=by decide +kernel
  exact(Ee (by omega)).1
 .
  rename_i hB;rw[a0d hB]at this;have l1:(bW 288).length=288:=by decide +kernel
  have l2:ib.length=32:=by decide +kernel
  refine⟨(Ee (by omega)).1,?_⟩;rw[FY (by omega)];omega
def Lf:(List.range 61).all (fun y=>decide (y<3) || decide (((bW 288).getD (257+fnd 3 4 y 27) 0).toNat+(stF 3 4 (fnd 3 4 y 27)).2+11<=9*y))=true:=by decide +kernel
def Ld:(List.range 251).all (fun y=>decide (y<1) || decide ((stF 1 2 (fnd 1 2 y 29)).2<=6))=true:=by decide +kernel
def Le{t:Tk}(d:okT t=true):bN (cH (bW 288) ib t)<=9*(if isB t then 1 else t.2.1.toNat):=by
 obtain⟨y,lo,b⟩:=t;unfold cH;by_cases a:isB (y,lo,b)=true
 .
  rw[a0c a,a0c a,ft,kC,ms];have hb:0<=y/\y<=255:=by unfold isB inB at a;simp only[a0k,a0s]at a;omega
  have:=Ee (i:=y.toNat) (by omega);show((bW 288).getD y.toNat 0).toNat+0<=9*1;omega
 .
  rw[a0d a,a0d a];have c:isK (y,lo,b)=true:=by unfold okT at d;simpa[a]using d
  have hb:y=0/\3<=lo/\lo<=60/\1<=b/\b<=250:=by unfold isK inB at c;simp only[a0k,a0s]at c;omega
  obtain⟨rfl,e,f,h,j⟩:=hb;obtain⟨x,rfl⟩:=a0o (show 0<=lo by omega);obtain⟨z,rfl⟩:=a0o (show 0<=b by omega);have f1:=a08.1 Lf x (List.mem_range.2 (by omega));have f2:=a08.1 Ld z (List.mem_range.2 (by omega));simp only[a1e,a0s]at f1 f2;have g:=FY (i:=fnd 1 2 z 29) (by have:=gP 1 2 z 29;omega);simp only[ft,kC,ms,a0n];rw[g];omega
def Ou{L:List UInt8} : ∀(n p:Nat),L.length-p<=n->bN ((bj L p).flatMap (cH (bW 288) ib))<=9*(L.length-p):=by
 intro n;induction n with
 | zero=>
  intro p h;rw[eJ (by omega)];exact a0f _
 | succ n ih=>
  intro p h;by_cases d:p<L.length
  .
   have a:=xP L L.length p (by omega);rw[iF d]at a ⊢;have e:=Le (a (fG L p) (by simp));have g:=gW L p;have i:=qd d;have j:=ih (p+iW L p) (by omega);have f:(if isB (fG L p)then 1 else(fG L p).2.1.toNat)=iW L p:=by
    unfold fG iW;by_cases b:(bg L p (min p 250)).1<3
    .
     have c:isB ((((L.getD p 0).toNat:Nat):Int),0,0)=true:=by
      have:=(L.getD p 0).toNat_lt;generalize (L.getD p 0).toNat=y at *
      unfold isB inB;simp;omega
     rw[a0c b,a0c b,c];rfl
    .
     have c:isB (0,((bg L p (min p 250)).1:Int),((bg L p (min p 250)).2:Int))=false:=by
      unfold isB;simp;omega
     rw[a0d b,a0d b,c];simp
   rw[f]at e;rw[a0W,dE];omega
  . rw[eJ d];exact a0f _
def wO(s:ByteArray):bN (io s)=1+2+bN ((bj s.data.toList 0).flatMap (cH (bW 288) ib))+7:=by
 unfold io;rw[dE,dE];have e1:bN [((1:Int),(1:Int)),((1:Int),(2:Int))]=3:=rfl;have e2:bN [pcM (bW 288) 256]=7:=by
  rw[ft,kC,ms];decide +kernel
 rw[e1,e2];omega
def uy(s:ByteArray)(h:s.size<=300):(dT s).length<=340/\2<=(dT s).length:=by
 have b:=pC s h;obtain⟨a,d,f⟩:=po b;have e:=wO s;have e2:=Ou (L:=s.data.toList) s.data.toList.length 0 (by omega);have e3:s.data.toList.length=s.size:=by simp
 have c:(dT s).length=((aU (io s)).2+7)/8:=by unfold dT ct;exact aB _ _
 rw[c,←a,e];omega
def Ar(s:ByteArray)(h:s.size<=300):cF ⟨(dT s).toArray⟩=some (s.data.toList,8*(dT s).length):=by
 have f:=pC s h;obtain⟨g,i,d⟩:=po f;have m:=(uy s h).1;have e:=wO s;have e3:s.data.toList.length=s.size:=by simp
 have b:(bW 288).getD 256 0=7:=by decide +kernel
 refine tX f (show(dT s).length<=700 by omega) ?_;have j:bN (io s)<=8*(dT s).length:=i;show fQ (aU (io s)).1 (8*(dT s).length) 0 []=some (s.data.toList,(aU (io s)).2);refine oO (k:=1) d (by omega) ?_;unfold fJ Ed;rw[a0d (by decide),a0c rfl];have a:=Gx (L:=bW 288) (D:=ib) iT mP (V:=(aU (io s)).1) (sz:=8*(dT s).length) (by rw[b];omega) (l:=[]) (bj s.data.toList 0) (0+1+2) [] s.data.toList (fun t a=>⟨eT s t a,LD (eT s t a)⟩) d.2.2 (by rw[b];simp only[Int.reduceToNat];omega) (vP (by omega));rw[b]at a;simp only[Int.reduceToNat]at a;have c:hH (aU (io s)).1 (8*(dT s).length) (bW 288) (List.replicate 32 5) (0+1+2) []=_:=a;rw[c,←g,e]
def Qk(s:ByteArray)(h:s.size<=300):cF (byS s)=some (s.data.toList,8*(byS s).size)/\(byS s).size=s.size+5:=by
 have b:s.data.toList.length=s.size:=jw s;have a:=As s.data.toList (by omega);have h2:=vH s.data.toList (by omega);unfold byS;rw[mr,a,h2,b];exact⟨rfl,rfl⟩
def Qi(s:ByteArray)(h:s.size<=300):cF (byF s)=some (s.data.toList,8*(byF s).size)/\2<=(byF s).size/\(byF s).size<=340:=by
 have a:=Ar s h;have h2:=uy s h;unfold byF lE;rw[a0c h,mr,a];exact⟨rfl,h2.2,h2.1⟩
def yV{r:List Int}(c:r.length=a.length)(h:∀j,j<a.length->r.getD j 0=a.getD j 0):r=a:=by
 apply a2e c;intro j b h2;have:=h j h2;simpa[List.getD,b,h2]using this
def Qz: ∀(is:List Nat) (p:Nat) (r:List Int),Std V p (is.map (fun i=>(a.getD i 0,(3:Int)))++l)->(∀i∈is,0<=a.getD i 0/\i<r.length)->∀j,(lbV V is p r).getD j 0=if j∈is then a.getD j 0 else r.getD j 0:=by
 intro is;induction is with
 | nil=>intro p r _ _ j;simp[lbV]
 | cons i is ih=>
  intro p r h c j;rw[a0B,a1g]at h;have d:V/2 ^ p%2 ^ 3=(a.getD i 0).toNat:=h.1;have h2:=h.2;obtain⟨i1,i2⟩:=c i (by simp);simp only[lbV];rw[d,a2L i1,ih (p+3) _ h2 (fun k f=>by rw[a1R];exact c k (by simp[f])) j];by_cases b:j∈is
  . rw[a0c b,a0c (by simp[b])]
  .
   rw[a0d b];by_cases e:j=i
   . subst e;rw[a0c (by simp)];simp[List.getD,i2]
   . rw[a0d (by simp[b,e])];simp[List.getD,Ne.symm e]
def QA(f:a.length=19)(e:∀i,i<19->0<=a.getD i 0)(h:Std V p (bC.map (fun i=>(a.getD i 0,(3:Int)))++l)):lbV V bC p (List.replicate 19 0)=a:=by
 have b:∀i∈bC,i<19:=by decide
 have c:∀i,i<19->i∈bC:=by decide
 have g:=Qz (a:=a) bC p (List.replicate 19 0) h (fun i d=>⟨e i (b i d),by rw[a0v];exact b i d⟩);have k:(lbV V bC p (List.replicate 19 0)).length=19:=by rw[OO,a0v]
 exact yV (by rw[k,f]) (fun j m=>by rw[g j,a0c (c j (by omega))])
def QD{B:List Int}(b:ar B=true) : ∀(A R:List Int) (p:Nat),(∀x∈A,0<=x/\x<=15/\0<B.getD x.toNat 0)->Std V p (A.map (fun x=>pcM B x.toNat)++l)->p+bN (A.map (fun x=>pcM B x.toNat))<=sz->lnG V sz B (R.length+A.length) p R=some (R++A,p+bN (A.map (fun x=>pcM B x.toNat))):=by
 intro A;induction A with
 | nil=>
  intro R p _ _ a;rw[a1B,kC,a09]at a;rw[uR a (by simp),a0c (by simp),a01,a1B,kC,a09]
 | cons x A ih=>
  intro R p c h a;rw[a0B,ft,ms]at a ⊢;rw[a0B,a1g]at h;obtain⟨a1,a2,a3⟩:=c x (by simp);rw[a0A,uQ (by omega) (by omega),pw b a3 h (by omega)];simp only[a0e];have e:dP V sz R ((x.toNat:Nat):Int) (p+(B.getD x.toNat 0).toNat)=some (R++[x],p+(B.getD x.toNat 0).toNat):=by
   rw[a2L a1];unfold dP;rw[a0d (by omega),a0d (by omega),a0d (by omega)]
  rw[e];simp only[a0e];have:=ih (R++[x]) (p+(B.getD x.toNat 0).toNat) (fun y d=>c y (by simp[d])) h.2 (by omega);rw[a0i,a1d]at this;rw[show R.length+(A.length+1)=R.length+1+A.length by omega,this];simp only[a0I,List.singleton_append,a0j,a0O,a1A];omega
def qx(a:List Int)(is:List Nat):bN (is.map (fun i=>(a.getD i 0,(3:Int))))=3*is.length:=by
 induction is with
 | nil=>rfl
 | cons i is ih=>
  rw[a0B,ft,ih,a0A];simp only[Int.reduceToNat];omega
def LP{L D:List Int}(r:ar L=true)(q:ar D=true)(l0:257<=L.length)(l1:L.length<=286)(y:1<=D.length)(z:D.length<=30)(h:Std V p (di L D++l))(u:p+bN (di L D)<=sz) :
  ie V sz p=some (L.length,L++D,p+bN (di L D)):=by
 have g:∀x∈L++D,0<=x/\x<=15:=by
  intro x f;rcases a0X.1 f with h|h
  . exact kf r x h
  . exact kf q x h
 have j:(L++D).length=L.length+D.length:=a0i;obtain⟨v,s,w⟩:=uI (L++D) (by omega) (by omega) g;have b:=IB (L++D) (by omega) (by omega) g;have e:di L D++l=((L.length:Int)-257,(5:Int)) :: ((D.length:Int)-1,(5:Int)) :: ((15:Int),(4:Int)) :: (bC.map (fun i=>((aN (L++D)).getD i 0,(3:Int)))++((L++D).map (fun x=>pcM (aN (L++D)) x.toNat)++l)):=by
  unfold di;simp only[a1g,a04,a0I]
 have eb:bN (di L D)=5+5+4+3*19+bN ((L++D).map (fun x=>pcM (aN (L++D)) x.toNat)):=by
  unfold di;rw[dE,dE,qx];have e1:bN [((L.length:Int)-257,(5:Int)),((D.length:Int)-1,(5:Int)),((15:Int),(4:Int))]=14:=rfl;have e2:bC.length=19:=rfl;rw[e1,e2];omega
 rw[e]at h;rw[eb]at u ⊢;generalize A:aN (L++D)=B at *
 have x1:V/2 ^ p%2 ^ 5=L.length-257:=by have:=h.1;simp only[Int.reduceToNat]at this;omega
 have h2:Std V (p+5) _:=h.2;have x2:V/2 ^ (p+5)%2 ^ 5=D.length-1:=by have:=h2.1;simp only[Int.reduceToNat]at this;omega
 have m:Std V (p+5+5) _:=h2.2;have x3:V/2 ^ (p+5+5)%2 ^ 4=15:=by have:=m.1;simp only[Int.reduceToNat]at this;exact this
 have n:Std V (p+5+5+4) _:=m.2;have k:=QA (a:=B) v (fun i t=>(w i t).1) n;have o:=(oW.1 n).2;rw[qx,show bC.length=19 from rfl]at o;have c:lbV V (bC.take (15+4)) (p+5+5+4) (List.replicate 19 0)=B:=by
  rw[show bC.take (15+4)=bC from rfl];exact k
 rw[Bp (by omega) x1 x2 x3 c,a0c ⟨by omega,s,by omega,by omega⟩];have d:=QD s (sz:=sz) (L++D) [] (p+5+5+4+3*(15+4)) (fun x f=>⟨(g x f).1,(g x f).2,b x f⟩) o (by omega);rw[a0Q,a0F,j,a04]at d;rw[show L.length-257+257+(D.length-1+1)=L.length+D.length by omega,show L.length-257+257=L.length by omega,d];simp only[a0e];rw[List.take_left',List.drop_left',a0c ⟨r,q⟩]
 . simp only[a0j,a0O,a1A];omega
 . rfl
 . rfl
def Mu(T:List Tk)(c:T.length<=300)(b:∀t∈T,okT t=true)(t:Tk)(d:t∈T):El (bE T) (cm T) t:=by
 obtain⟨a,h2⟩:=Gj T c b t d;unfold iV at a;unfold eo at h2;unfold El
 split
 . rename_i h;rw[a0c h]at a;exact a
 . rename_i h;rw[a0d h]at a h2;exact⟨a,h2 _ (by simp)⟩
def xt(T:List Tk):bN (je T)=1+2+bN (di (bE T) (cm T))+bN (T.flatMap (cH (bE T) (cm T)))+((bE T).getD 256 0).toNat:=by
 unfold je;rw[dE,dE,dE,ft (pcM (bE T) 256),kC,ms];have e1:bN [((1:Int),(1:Int)),((2:Int),(2:Int))]=3:=rfl;rw[e1];omega
def Ms(s:ByteArray)(h:s.size<=300):9<=(mj s).length:=by
 have c:=iY s h;have b:=tk (bj s.data.toList 0) c (eT s);obtain⟨a,f,g⟩:=po b;have e:=xt (bj s.data.toList 0);have d:(mj s).length=((aU (je (bj s.data.toList 0))).2+7)/8:=by unfold mj ct;exact aB _ _
 have eb:71<=bN (di (bE (bj s.data.toList 0)) (cm (bj s.data.toList 0))):=by
  unfold di;rw[dE,dE,qx];have e2:bC.length=19:=rfl;rw[e2,ft,ft,ft];simp only[Int.reduceToNat];omega
 rw[d,←a,e];omega
def Ia(s:ByteArray)(h:s.size<=300)(g:(mj s).length<=700):cF ⟨(mj s).toArray⟩=some (s.data.toList,8*(mj s).length):=by
 have a:=iY s h;have b:=eT s;have e3:s.data.toList.length=s.size:=by simp
 have o:=vP (L:=s.data.toList) (by omega);unfold mj at g ⊢;generalize bj s.data.toList 0=T at *
 have d:=tk T a b;obtain⟨i,p,c⟩:=po d;have e:=xt T;refine tX d g ?_;generalize 8*(ct (je T)).length=sz at *
 generalize (aU (je T)).1=V at *
 obtain⟨l0,l1⟩:=jP T a;obtain⟨j,m⟩:=ln T a;have n:=BW T a 256 (.inl rfl) (by omega);refine oO (k:=2) c (by omega) ?_;have s3:Std V (0+1+2) (di (bE T) (cm T)++(T.flatMap (cH (bE T) (cm T))++[pcM (bE T) 256])):=c.2.2;unfold fJ;rw[a0d (by decide),a0d (by decide),a0c rfl,xr,LP (gn T a) (iM T a) l0 l1 j m s3 (by omega)];simp only[a0e];rw[List.take_left',List.drop_left']
 . have s4:=(oW.1 s3).2;rw[Gx (gn T a) (iM T a) n (l:=[]) T _ [] s.data.toList (fun t f=>⟨b t f,Mu T a b t f⟩) s4 (by omega) o,←i,e]
 . rfl
 . rfl
def Qj(s:ByteArray)(h:s.size<=300):((byO s).size<=700->cF (byO s)=some (s.data.toList,8*(byO s).size))/\2<=(byO s).size:=by
 have h2:=Ms s h;unfold byO lP;rw[a0c h,mr];exact⟨fun a=>Ia s h a,by omega⟩
def Eg(s:ByteArray)(h:s.size<=300):cF (bZ s)=some (s.data.toList,8*(bZ s).size)/\(bZ s).size<=s.size+5/\2<=(bZ s).size/\(bZ s).size<=(byS s).size/\(bZ s).size<=(byF s).size/\(bZ s).size<=(byO s).size/\(bZ s=byS s∨bZ s=byF s∨bZ s=byO s):=by
 obtain⟨a1,a2⟩:=Qk s h;obtain⟨a,b,c⟩:=Qi s h;obtain⟨c1,c2⟩:=Qj s h;unfold bZ;by_cases e1:(byF s).size<(byS s).size
 .
  rw[fo e1];by_cases e2:(byO s).size<(byF s).size
  . rw[fo e2];exact⟨c1 (by omega),by omega,c2,by omega,by omega,a0a _,.inr (.inr rfl)⟩
  . rw[gz e2];exact⟨a,by omega,b,by omega,a0a _,by omega,.inr (.inl rfl)⟩
 .
  rw[gz e1];by_cases e2:(byO s).size<(byS s).size
  . rw[fo e2];exact⟨c1 (by omega),by omega,c2,by omega,by omega,a0a _,.inr (.inr rfl)⟩
  . rw[gz e2];exact⟨a1,by omega,by omega,a0a _,by omega,by omega,.inl rfl⟩
