/- Texts. -/
import Derived.Test.YtfannoajibacnaaGreatDoorM36
import Derived.Test.YtfannoajibacnaaGreatDoorM32
set_option linter.all false
namespace Go.Proofs.YtfannoajibacnaaGreatDoor
open Go.RowKit Corb
variable {V p sz:Nat}{a:List Int}{l:List (Int×Int)}
def ny(l:List UInt8):(⟨l.toArray⟩:ByteArray).size=l.length:=by simp[ByteArray.size]
def Kf: ∀(L:List UInt8) (p:Nat) (R:List UInt8),Std V p (bZ L++l)->p+8*L.length<=sz->R.length+L.length<=300->dV V sz L.length p R=some (R++L,p+8*L.length):=by
 intro L;induction L with
 | nil=>intro p R _ _ _;simp[dV]
 | cons b L ih=>
  intro p R h f d;rw[a0C]at f d ⊢;have e:bZ (b :: L)++l=(((b.toNat:Nat):Int),(8:Int)) :: (bZ L++l):=rfl;rw[e]at h;have c:=ts (sz:=sz) h (by show p+8<=sz;omega);simp only[a0n]at c;have a:rdN V sz p 8=some (b.toNat,p+8):=c;have hb:=b.toNat_lt;simp only[dV];rw[a];simp only[a0f];rw[mb R b.toNat hb,a0d (by omega)];simp only[a0f];rw[Cx,ih (p+8) (R++[b]) h.2 (by omega) (by rw[a0i,a1l];omega)];simp only[a0I,List.singleton_append,a0l,a0R,a1U];omega
def Mh{c:Nat}{L R:List UInt8}(g:(8-p%8)%8=c)(h:Std V p (((0:Int),(c:Int)) :: ((L.length:Int),(16:Int)) :: (((65535-L.length:Nat):Int),(16:Int)) :: (bZ L++l)))(k:p+c+32+8*L.length<=sz)(f:R.length+L.length<=300) :
  dX V sz p R=some (R++L,p+c+32+8*L.length):=by
 have d:=h.1;have a:=h.2;have h2:=a.2;have e:=h2.2;simp only[a0n,Int.toNat_zero]at d a h2 e;unfold dX gz;rw[g,a0d d];simp only[a0f];have i:rdN V sz (p+c) 16=some (L.length,p+c+16):=ts (sz:=sz) a (by show p+c+16<=sz;omega);have j:rdN V sz (p+c+16) 16=some (65535-L.length,p+c+16+16):=ts (sz:=sz) h2 (by show p+c+16+16<=sz;omega);rw[i];simp only[a0f];rw[j];simp only[a0f,a0Y];have b:Std V (p+c+16+16) (bZ L++l):=e;rw[Kf L _ R b (by omega) f]
def qm{k:Nat}{T:List UInt8}{r:List UInt8×Nat}(h:Std V p (((1:Int),(1:Int)) :: ((k:Int),(2:Int)) :: l))(d:p+1+2<=sz)(a:gw V sz k (p+1+2) T=some r):gF V sz p T=some r:=by
 have b:rdN V sz p 1=some (1,p+1):=ts (sz:=sz) h (by show p+1<=sz;omega);have h2:=h.2;have c:rdN V sz (p+1) 2=some (k,p+1+2):=by
  have:=ts (sz:=sz) h2 (by show p+1+2<=sz;omega);simpa using this
 rw[oq,b];simp only[a0f];rw[c];simp only[a0f];rw[a];rfl
def P8{M:Nat}(h:V<2 ^ M):gz V M=some (M+(8-M%8)%8):=by
 unfold gz;rw[a1Z h,Nat.zero_mod,a0d rfl]
def vW{P:List (Int×Int)}{T:List UInt8}(a:lOk P=true)(f:(cS P).length<=700)(e:gF (aV P).1 (8*(cS P).length) 0 []=some (T,(aV P).2)):cY ⟨(cS P).toArray⟩=some (T,8*(cS P).length):=by
 have d:(cS P).length=((aV P).2+7)/8:=by unfold cS;exact aB _ _
 have c:=QJ a;rw[ee a]at c;have b:(aV P).1<2 ^ (aV P).2:=Cf P (by unfold lOk at a;simp only[a0k]at a;exact a.1);unfold cY fW;rw[a0d (by rw[ny];exact f)];have e1:ak ⟨(cS P).toArray⟩=(aV P).1:=by unfold ak;simpa using c
 have e2:(⟨(cS P).toArray⟩:ByteArray).size=(cS P).length:=ny _;rw[e1,e2,e];simp only[a0f];rw[P8 b];simp only[a0f,a0l,a0R,a1U];rw[d];omega
def qP{P:List (Int×Int)}(a:lOk P=true):bN P=(aV P).2/\bN P<=8*(cS P).length/\Std (aV P).1 0 P:=by
 have h:aZ P=true:=by unfold lOk at a;simp only[a0k]at a;exact a.1
 have b:=Mi h;have c:(cS P).length=((aV P).2+7)/8:=by unfold cS;exact aB _ _
 have h2:=SU 0 h;rw[Nat.zero_mul,a1d]at h2;refine⟨b,?_,h2⟩;unfold bN;rw[b,c];omega
def M7(L:List UInt8):bN (bZ L)=8*L.length:=by
 induction L with
 | nil=>rfl
 | cons b L ih=>
  have e:bZ (b :: L)=(((b.toNat:Nat):Int),(8:Int)) :: bZ L:=rfl;rw[e,fY,ih,a0C];simp only[Int.reduceToNat];omega
def zN(L:List UInt8)(h:L.length<=300):lOk (fB L.length++bZ L)=true:=by
 have a:=wb L.length (by omega);have h2:=pV L (by omega);unfold lOk at a h2 ⊢;simp only[a0k,a0v]at a h2 ⊢;rw[qL,a.1,h2.1,a0i,mC];refine⟨rfl,?_⟩;have:(fB L.length).length=5:=rfl;omega
def Fq(L:List UInt8)(h:L.length<=300):cS (fB L.length++bZ L)=gJ L:=by
 rw[←ee (zN L h),zO L h];unfold gJ;rw[a0d h]
def xU(L:List UInt8)(h:L.length<=300):(gJ L).length=L.length+5:=by
 unfold gJ;rw[a0d h,a0i,aB];omega
def DD(L:List UInt8)(h:L.length<=300):cY ⟨(gJ L).toArray⟩=some (L,8*(L.length+5)):=by
 have d:=zN L h;obtain⟨e,f,b⟩:=qP d;have a:=xU L h;rw[←Fq L h]at a ⊢;rw[a]at f;have hb:bN (fB L.length++bZ L)=40+8*L.length:=by
  rw[dY,M7];rfl
 have:=vW (T:=L) d (by omega) (by
  rw[a,←e,hb];refine qm (k:=0) b (by omega) ?_;unfold gw;rw[a0d rfl];have g:=Mh (R:=[]) (V:=(aV (fB L.length++bZ L)).1) (sz:=8*(L.length+5)) (p:=0+1+2) (c:=5) (L:=L) (l:=[]) (by decide) (by rw[a05];exact b.2.2) (by omega) (by simpa using h);rw[g];simp only[a1a])
 rw[this,a]
def RE:(List.range 288).all (fun i=>decide (0<(cm 288).getD i 0)&&decide ((cm 288).getD i 0<=9))=true:=by decide +kernel
def NX:(List.range 32).all (fun i=>decide (iR.getD i 0=5))=true:=by decide +kernel
def GE{i:Nat}(h:i<288):0<(cm 288).getD i 0/\(cm 288).getD i 0<=9:=by
 have:=a1c.1 RE i (List.mem_range.2 h);simpa using this
def Jb{i:Nat}(h:i<32):iR.getD i 0=5:=by
 have:=a1c.1 NX i (List.mem_range.2 h);simpa using this
def OE{t:Tk}(a:okT t=true):GL (cm 288) iR t:=by
 have:=kE a;unfold gR at this;unfold GL
 split
 .
  rename_i hB;rw[a0d hB]at this;have l1:(cm 288).length=288:=by decide +kernel
  exact(GE (by omega)).1
 .
  rename_i hB;rw[a0e hB]at this;have l1:(cm 288).length=288:=by decide +kernel
  have l2:iR.length=32:=by decide +kernel
  refine⟨(GE (by omega)).1,?_⟩;rw[Jb (by omega)];omega
def N7:(List.range 61).all (fun y=>decide (y<3) || decide (((cm 288).getD (257+fnd 3 4 y 27) 0).toNat+(stF 3 4 (fnd 3 4 y 27)).2+11<=9*y))=true:=by decide +kernel
def NZ:(List.range 251).all (fun y=>decide (y<1) || decide ((stF 1 2 (fnd 1 2 y 29)).2<=6))=true:=by decide +kernel
def N0{t:Tk}(d:okT t=true):bN (db (cm 288) iR t)<=9*(if isB t then 1 else t.2.1.toNat):=by
 obtain⟨y,lo,b⟩:=t;unfold db;by_cases a:isB (y,lo,b)=true
 .
  rw[a0d a,a0d a,fY,lE,nz];have hb:0<=y/\y<=255:=by unfold isB inB at a;simp only[a0k,a0v]at a;omega
  have:=GE (i:=y.toNat) (by omega);show((cm 288).getD y.toNat 0).toNat+0<=9*1;omega
 .
  rw[a0e a,a0e a];have c:isK (y,lo,b)=true:=by unfold okT at d;simpa[a]using d
  have hb:y=0/\3<=lo/\lo<=60/\1<=b/\b<=250:=by unfold isK inB at c;simp only[a0k,a0v]at c;omega
  obtain⟨rfl,e,f,h,j⟩:=hb;obtain⟨x,rfl⟩:=a0r (show 0<=lo by omega);obtain⟨z,rfl⟩:=a0r (show 0<=b by omega);have f1:=a1c.1 N7 x (List.mem_range.2 (by omega));have f2:=a1c.1 NZ z (List.mem_range.2 (by omega));simp only[a1m,a0v]at f1 f2;have g:=Jb (i:=fnd 1 2 z 29) (by have:=iH 1 2 z 29;omega);simp only[fY,lE,nz,a0n];rw[g];omega
def RG{L:List UInt8} : ∀(n p:Nat),L.length-p<=n->bN ((bq L p).flatMap (db (cm 288) iR))<=9*(L.length-p):=by
 intro n;induction n with
 | zero=>
  intro p h;rw[fu (by omega)];exact a0g _
 | succ n ih=>
  intro p h;by_cases d:p<L.length
  .
   have a:=zY L L.length p (by omega);rw[jp d]at a ⊢;have e:=N0 (a (gq L p) (by simp));have g:=iM L p;have i:=rR d;have j:=ih (p+jH L p) (by omega);have f:(if isB (gq L p)then 1 else(gq L p).2.1.toNat)=jH L p:=by
    unfold gq jH;by_cases b:(bm L p (min p 250)).1<3
    .
     have c:isB ((((L.getD p 0).toNat:Nat):Int),0,0)=true:=by
      have:=(L.getD p 0).toNat_lt;generalize (L.getD p 0).toNat=y at *
      unfold isB inB;simp;omega
     rw[a0d b,a0d b,c];rfl
    .
     have c:isB (0,((bm L p (min p 250)).1:Int),((bm L p (min p 250)).2:Int))=false:=by
      unfold isB;simp;omega
     rw[a0e b,a0e b,c];simp
   rw[f]at e;rw[a0W,dY];omega
  . rw[fu d];exact a0g _
def zd(s:ByteArray):bN (iZ s)=1+2+bN ((bq s.data.toList 0).flatMap (db (cm 288) iR))+7:=by
 unfold iZ;rw[dY,dY];have e1:bN [((1:Int),(1:Int)),((1:Int),(2:Int))]=3:=rfl;have e2:bN [pcM (cm 288) 256]=7:=by
  rw[fY,lE,nz];decide +kernel
 rw[e1,e2];omega
def wC(s:ByteArray)(h:s.size<=300):(eJ s).length<=340/\2<=(eJ s).length:=by
 have b:=rf s h;obtain⟨a,d,f⟩:=qP b;have e:=zd s;have e2:=RG (L:=s.data.toList) s.data.toList.length 0 (by omega);have e3:s.data.toList.length=s.size:=by simp
 have c:(eJ s).length=((aV (iZ s)).2+7)/8:=by unfold eJ cS;exact aB _ _
 rw[c,←a,e];omega
def DC(s:ByteArray)(h:s.size<=300):cY ⟨(eJ s).toArray⟩=some (s.data.toList,8*(eJ s).length):=by
 have f:=rf s h;obtain⟨g,i,d⟩:=qP f;have m:=(wC s h).1;have e:=zd s;have e3:s.data.toList.length=s.size:=by simp
 have b:(cm 288).getD 256 0=7:=by decide +kernel
 refine vW f (show(eJ s).length<=700 by omega) ?_;have j:bN (iZ s)<=8*(eJ s).length:=i;show gF (aV (iZ s)).1 (8*(eJ s).length) 0 []=some (s.data.toList,(aV (iZ s)).2);refine qm (k:=1) d (by omega) ?_;unfold gw GD;rw[a0e (by decide),a0d rfl];have a:=JK (L:=cm 288) (D:=iR) jE nZ (V:=(aV (iZ s)).1) (sz:=8*(eJ s).length) (by rw[b];omega) (l:=[]) (bq s.data.toList 0) (0+1+2) [] s.data.toList (fun t a=>⟨fE s t a,OE (fE s t a)⟩) d.2.2 (by rw[b];simp only[Int.reduceToNat];omega) (ye (by omega));rw[b]at a;simp only[Int.reduceToNat]at a;have c:iP (aV (iZ s)).1 (8*(eJ s).length) (cm 288) (List.replicate 32 5) (0+1+2) []=_:=a;rw[c,←g,e]
def TM(s:ByteArray)(h:s.size<=300):cY (byS s)=some (s.data.toList,8*(byS s).size)/\(byS s).size=s.size+5:=by
 have b:s.data.toList.length=s.size:=kv s;have a:=DD s.data.toList (by omega);have h2:=xU s.data.toList (by omega);unfold byS;rw[ny,a,h2,b];exact⟨rfl,rfl⟩
def TK(s:ByteArray)(h:s.size<=300):cY (byF s)=some (s.data.toList,8*(byF s).size)/\2<=(byF s).size/\(byF s).size<=340:=by
 have a:=DC s h;have h2:=wC s h;unfold byF mJ;rw[a0d h,ny,a];exact⟨rfl,h2.2,h2.1⟩
def Bs{r:List Int}(c:r.length=a.length)(h:∀j,j<a.length->r.getD j 0=a.getD j 0):r=a:=by
 apply a2k c;intro j b h2;have:=h j h2;simpa[List.getD,b,h2]using this
def Ue: ∀(is:List Nat) (p:Nat) (r:List Int),Std V p (is.map (fun i=>(a.getD i 0,(3:Int)))++l)->(∀i∈is,0<=a.getD i 0/\i<r.length)->∀j,(lbV V is p r).getD j 0=if j∈is then a.getD j 0 else r.getD j 0:=by
 intro is;induction is with
 | nil=>intro p r _ _ j;simp[lbV]
 | cons i is ih=>
  intro p r h c j;rw[a0D,a1q]at h;have d:V/2 ^ p%2 ^ 3=(a.getD i 0).toNat:=h.1;have h2:=h.2;obtain⟨i1,i2⟩:=c i (by simp);simp only[lbV];rw[d,a3m i1,ih (p+3) _ h2 (fun k f=>by rw[a00];exact c k (by simp[f])) j];by_cases b:j∈is
  . rw[a0d b,a0d (by simp[b])]
  .
   rw[a0e b];by_cases e:j=i
   . subst e;rw[a0d (by simp)];simp[List.getD,i2]
   . rw[a0e (by simp[b,e])];simp[List.getD,Ne.symm e]
def Uf(f:a.length=19)(e:∀i,i<19->0<=a.getD i 0)(h:Std V p (bK.map (fun i=>(a.getD i 0,(3:Int)))++l)):lbV V bK p (List.replicate 19 0)=a:=by
 have b:∀i∈bK,i<19:=by decide
 have c:∀i,i<19->i∈bK:=by decide
 have g:=Ue (a:=a) bK p (List.replicate 19 0) h (fun i d=>⟨e i (b i d),by rw[a0y];exact b i d⟩);have k:(lbV V bK p (List.replicate 19 0)).length=19:=by rw[Sf,a0y]
 exact Bs (by rw[k,f]) (fun j m=>by rw[g j,a0d (c j (by omega))])
def Uh{B:List Int}(b:ap B=true) : ∀(A R:List Int) (p:Nat),(∀x∈A,0<=x/\x<=15/\0<B.getD x.toNat 0)->Std V p (A.map (fun x=>pcM B x.toNat)++l)->p+bN (A.map (fun x=>pcM B x.toNat))<=sz->lnG V sz B (R.length+A.length) p R=some (R++A,p+bN (A.map (fun x=>pcM B x.toNat))):=by
 intro A;induction A with
 | nil=>
  intro R p _ _ a;rw[a1I,lE,a1d]at a;rw[wX a (by simp),a0d (by simp),a05,a1I,lE,a1d]
 | cons x A ih=>
  intro R p c h a;rw[a0D,fY,nz]at a ⊢;rw[a0D,a1q]at h;obtain⟨a1,a2,a3⟩:=c x (by simp);rw[a0C,wW (by omega) (by omega),qV b a3 h (by omega)];simp only[a0f];have e:er V sz R ((x.toNat:Nat):Int) (p+(B.getD x.toNat 0).toNat)=some (R++[x],p+(B.getD x.toNat 0).toNat):=by
   rw[a3m a1];unfold er;rw[a0e (by omega),a0e (by omega),a0e (by omega)]
  rw[e];simp only[a0f];have:=ih (R++[x]) (p+(B.getD x.toNat 0).toNat) (fun y d=>c y (by simp[d])) h.2 (by omega);rw[a0i,a1l]at this;rw[show R.length+(A.length+1)=R.length+1+A.length by omega,this];simp only[a0I,List.singleton_append,a0l,a0R,a1U];omega
def sw(a:List Int)(is:List Nat):bN (is.map (fun i=>(a.getD i 0,(3:Int))))=3*is.length:=by
 induction is with
 | nil=>rfl
 | cons i is ih=>
  rw[a0D,fY,ih,a0C];simp only[Int.reduceToNat];omega
def ON{L D:List Int}(r:ap L=true)(q:ap D=true)(l0:257<=L.length)(l1:L.length<=286)(y:1<=D.length)(z:D.length<=30)(h:Std V p (dG L D++l))(u:p+bN (dG L D)<=sz) :
  iS V sz p=some (L.length,L++D,p+bN (dG L D)):=by
 have g:∀x∈L++D,0<=x/\x<=15:=by
  intro x f;rcases a03.1 f with h|h
  . exact ln r x h
  . exact ln q x h
 have j:(L++D).length=L.length+D.length:=a0i;obtain⟨v,s,w⟩:=wO (L++D) (by omega) (by omega) g;have b:=Lh (L++D) (by omega) (by omega) g;have e:dG L D++l=((L.length:Int)-257,(5:Int)) :: ((D.length:Int)-1,(5:Int)) :: ((15:Int),(4:Int)) :: (bK.map (fun i=>((aQ (L++D)).getD i 0,(3:Int)))++((L++D).map (fun x=>pcM (aQ (L++D)) x.toNat)++l)):=by
  unfold dG;simp only[a1q,a1a,a0I]
 have eb:bN (dG L D)=5+5+4+3*19+bN ((L++D).map (fun x=>pcM (aQ (L++D)) x.toNat)):=by
  unfold dG;rw[dY,dY,sw];have e1:bN [((L.length:Int)-257,(5:Int)),((D.length:Int)-1,(5:Int)),((15:Int),(4:Int))]=14:=rfl;have e2:bK.length=19:=rfl;rw[e1,e2];omega
 rw[e]at h;rw[eb]at u ⊢;generalize A:aQ (L++D)=B at *
 have x1:V/2 ^ p%2 ^ 5=L.length-257:=by have:=h.1;simp only[Int.reduceToNat]at this;omega
 have h2:Std V (p+5) _:=h.2;have x2:V/2 ^ (p+5)%2 ^ 5=D.length-1:=by have:=h2.1;simp only[Int.reduceToNat]at this;omega
 have m:Std V (p+5+5) _:=h2.2;have x3:V/2 ^ (p+5+5)%2 ^ 4=15:=by have:=m.1;simp only[Int.reduceToNat]at this;exact this
 have n:Std V (p+5+5+4) _:=m.2;have k:=Uf (a:=B) v (fun i t=>(w i t).1) n;have o:=(qx.1 n).2;rw[sw,show bK.length=19 from rfl]at o;have c:lbV V (bK.take (15+4)) (p+5+5+4) (List.replicate 19 0)=B:=by
  rw[show bK.take (15+4)=bK from rfl];exact k
 rw[Eh (by omega) x1 x2 x3 c,a0d ⟨by omega,s,by omega,by omega⟩];have d:=Uh s (sz:=sz) (L++D) [] (p+5+5+4+3*(15+4)) (fun x f=>⟨(g x f).1,(g x f).2,b x f⟩) o (by omega);rw[a0U,a0G,j,a1a]at d;rw[show L.length-257+257+(D.length-1+1)=L.length+D.length by omega,show L.length-257+257=L.length by omega,d];simp only[a0f];rw[a3x,List.drop_left',a0d ⟨r,q⟩]
 . simp only[a0l,a0R,a1U];omega
 . rfl
 . rfl
def Pz(T:List Tk)(c:T.length<=300)(b:∀t∈T,okT t=true)(t:Tk)(d:t∈T):GL (bQ T) (cM T) t:=by
 obtain⟨a,h2⟩:=Jt T c b t d;unfold jG at a;unfold fg at h2;unfold GL
 split
 . rename_i h;rw[a0d h]at a;exact a
 . rename_i h;rw[a0e h]at a h2;exact⟨a,h2 _ (by simp)⟩
def zF(T:List Tk):bN (jS T)=1+2+bN (dG (bQ T) (cM T))+bN (T.flatMap (db (bQ T) (cM T)))+((bQ T).getD 256 0).toNat:=by
 unfold jS;rw[dY,dY,dY,fY (pcM (bQ T) 256),lE,nz];have e1:bN [((1:Int),(1:Int)),((2:Int),(2:Int))]=3:=rfl;rw[e1];omega
def Pw(s:ByteArray)(h:s.size<=300):9<=(nt s).length:=by
 have c:=jJ s h;have b:=vq (bq s.data.toList 0) c (fE s);obtain⟨a,f,g⟩:=qP b;have e:=zF (bq s.data.toList 0);have d:(nt s).length=((aV (jS (bq s.data.toList 0))).2+7)/8:=by unfold nt cS;exact aB _ _
 have eb:71<=bN (dG (bQ (bq s.data.toList 0)) (cM (bq s.data.toList 0))):=by
  unfold dG;rw[dY,dY,sw];have e2:bK.length=19:=rfl;rw[e2,fY,fY,fY];simp only[Int.reduceToNat];omega
 rw[d,←a,e];omega
def KJ(s:ByteArray)(h:s.size<=300)(g:(nt s).length<=700):cY ⟨(nt s).toArray⟩=some (s.data.toList,8*(nt s).length):=by
 have a:=jJ s h;have b:=fE s;have e3:s.data.toList.length=s.size:=by simp
 have o:=ye (L:=s.data.toList) (by omega);unfold nt at g ⊢;generalize bq s.data.toList 0=T at *
 have d:=vq T a b;obtain⟨i,p,c⟩:=qP d;have e:=zF T;refine vW d g ?_;generalize 8*(cS (jS T)).length=sz at *
 generalize (aV (jS T)).1=V at *
 obtain⟨l0,l1⟩:=kO T a;obtain⟨j,m⟩:=mr T a;have n:=EO T a 256 (.inl rfl) (by omega);refine qm (k:=2) c (by omega) ?_;have s3:Std V (0+1+2) (dG (bQ T) (cM T)++(T.flatMap (db (bQ T) (cM T))++[pcM (bQ T) 256])):=c.2.2;unfold gw;rw[a0e (by decide),a0e (by decide),a0d rfl,zE,ON (ib T a) (jw T a) l0 l1 j m s3 (by omega)];simp only[a0f];rw[a3x,List.drop_left']
 . have s4:=(qx.1 s3).2;rw[JK (ib T a) (jw T a) n (l:=[]) T _ [] s.data.toList (fun t f=>⟨b t f,Pz T a b t f⟩) s4 (by omega) o,←i,e]
 . rfl
 . rfl
def TL(s:ByteArray)(h:s.size<=300):((byO s).size<=700->cY (byO s)=some (s.data.toList,8*(byO s).size))/\2<=(byO s).size:=by
 have h2:=Pw s h;unfold byO mV;rw[a0d h,ny];exact⟨fun a=>KJ s h a,by omega⟩
def GG(s:ByteArray)(h:s.size<=300):cY (cw s)=some (s.data.toList,8*(cw s).size)/\(cw s).size<=s.size+5/\2<=(cw s).size/\(cw s).size<=(byS s).size/\(cw s).size<=(byF s).size/\(cw s).size<=(byO s).size/\(cw s=byS s∨cw s=byF s∨cw s=byO s):=by
 obtain⟨a1,a2⟩:=TM s h;obtain⟨a,b,c⟩:=TK s h;obtain⟨c1,c2⟩:=TL s h;unfold cw;by_cases e1:(byF s).size<(byS s).size
 .
  rw[fU e1];by_cases e2:(byO s).size<(byF s).size
  . rw[fU e2];exact⟨c1 (by omega),by omega,c2,by omega,by omega,a0a _,.inr (.inr rfl)⟩
  . rw[iq e2];exact⟨a,by omega,b,by omega,a0a _,by omega,.inr (.inl rfl)⟩
 .
  rw[iq e1];by_cases e2:(byO s).size<(byS s).size
  . rw[fU e2];exact⟨c1 (by omega),by omega,c2,by omega,by omega,a0a _,.inr (.inr rfl)⟩
  . rw[iq e2];exact⟨a1,by omega,by omega,a0a _,by omega,by omega,.inl rfl⟩
