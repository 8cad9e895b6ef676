/- Of what the proof is made: 5 texts, one behind the other. -/
import Derived.Test.YtbacpebljannfaaGreatDoorM29
import Derived.Test.YtbacpebljannfaaGreatDoorM23
import Derived.Test.YtbacpebljannfaaGreatDoorM19
import Derived.Test.YtbacpebljannfaaGreatDoorM26
import Derived.Test.YtbacpebljannfaaGreatDoorM28
set_option linter.unusedSimpArgs false
namespace Go.Proofs.YtbacpebljannfaaGreatDoor
open Go.RowKit Corb
theorem kY(l:List UInt8):(⟨l.toArray⟩:ByteArray).size=l.length:=by simp[ByteArray.size]
theorem BV{V sz:Nat}{l:List (Int×Int)} : ∀(L:List UInt8) (p:Nat) (R:List UInt8),Std V p (bI L++l)->p+8*L.length<=sz->R.length+L.length<=300->iH V sz L.length p R=some (R++L,p+8*L.length):=by
 intro L;induction L with
 | nil=>intro p R _ _ _;simp[iH]
 | cons b L ih=>
  intro p R h hs hR;rw[a0E]at hs hR ⊢;have e:bI (b :: L)++l=(((b.toNat:Nat):Int),(8:Int)) :: (bI L++l):=rfl;rw[e]at h;have h1:=pt (sz:=sz) h (by show p+8<=sz;omega);simp only[a0p]at h1;have h1':rdN V sz p 8=some (b.toNat,p+8):=h1;have hb:=b.toNat_lt;simp only[iH];rw[h1'];simp only[a0f];rw[BR R b.toNat hb,a0d (by omega)];simp only[a0f];rw[vT,ih (p+8) (R++[b]) h.2 (by omega) (by rw[a0m,a07];omega)];simp only[a0S,List.singleton_append,a0j,a0Y,a1W];omega
theorem DK{V sz p c:Nat}{L R:List UInt8}{l:List (Int×Int)}(hc:(8-p%8)%8=c)(h:Std V p (((0:Int),(c:Int)) :: ((L.length:Int),(16:Int)) :: (((65535-L.length:Nat):Int),(16:Int)) :: (bI L++l)))(hs:p+c+32+8*L.length<=sz)(hR:R.length+L.length<=300) :
  iL V sz p R=some (R++L,p+c+32+8*L.length):=by
 have h0:=h.1;have h1:=h.2;have h2:=h1.2;have h3:=h2.2;simp only[a0p,Int.toNat_zero]at h0 h1 h2 h3;unfold iL jS;rw[hc,a0d h0];simp only[a0f];have r1:rdN V sz (p+c) 16=some (L.length,p+c+16):=pt (sz:=sz) h1 (by show p+c+16<=sz;omega);have r2:rdN V sz (p+c+16) 16=some (65535-L.length,p+c+16+16):=pt (sz:=sz) h2 (by show p+c+16+16<=sz;omega);rw[r1];simp only[a0f];rw[r2];simp only[a0f,a0Z];have h3':Std V (p+c+16+16) (bI L++l):=h3;rw[BV L _ R h3' (by omega) hR]
theorem nh{V sz p k:Nat}{T:List UInt8}{r:List UInt8×Nat}{l:List (Int×Int)}(h:Std V p (((1:Int),(1:Int)) :: ((k:Int),(2:Int)) :: l))(hs:p+1+2<=sz)(hk:fZ V sz k (p+1+2) T=some r):ik V sz p T=some r:=by
 have r1:rdN V sz p 1=some (1,p+1):=pt (sz:=sz) h (by show p+1<=sz;omega);have h2:=h.2;have r2:rdN V sz (p+1) 2=some (k,p+1+2):=by
  have:=pt (sz:=sz) h2 (by show p+1+2<=sz;omega);simpa using this
 rw[pV,r1];simp only[a0f];rw[r2];simp only[a0f];rw[hk];rfl
theorem F9{V M:Nat}(h:V<2 ^ M):jS V M=some (M+(8-M%8)%8):=by
 unfold jS;rw[a1G h,Nat.zero_mod,a0d rfl]
theorem qZ{P:List (Int×Int)}{T:List UInt8}(hP:lOk P=true)(hs:(cH P).length<=700)(hp:ik (bi P).1 (8*(cH P).length) 0 []=some (T,(bi P).2)):dx ⟨(cH P).toArray⟩=some (T,8*(cH P).length):=by
 have hl:(cH P).length=((bi P).2+7)/8:=by unfold cH;exact aT _ _
 have hv:=GM hP;rw[d6 hP]at hv;have hlt:(bi P).1<2 ^ (bi P).2:=vJ P (by unfold lOk at hP;simp only[a0n]at hP;exact hP.1);unfold dx kK;rw[a0d (by rw[kY];exact hs)];have e1:ap ⟨(cH P).toArray⟩=(bi P).1:=by unfold ap;simpa using hv
 have e2:(⟨(cH P).toArray⟩:ByteArray).size=(cH P).length:=kY _;rw[e1,e2,hp];simp only[a0f];rw[F9 hlt];simp only[a0f,a0j,a0Y,a1W];rw[hl];omega
theorem nJ{P:List (Int×Int)}(hP:lOk P=true):bN P=(bi P).2/\bN P<=8*(cH P).length/\Std (bi P).1 0 P:=by
 have h:bj P=true:=by unfold lOk at hP;simp only[a0n]at hP;exact hP.1
 have h1:=DL h;have hl:(cH P).length=((bi P).2+7)/8:=by unfold cH;exact aT _ _
 have h2:=IY 0 h;rw[Nat.zero_mul,a1p]at h2;refine⟨h1,?_,h2⟩;unfold bN;rw[h1,hl];omega
theorem Ed(L:List UInt8):bN (bI L)=8*L.length:=by
 induction L with
 | nil=>rfl
 | cons b L ih=>
  have e:bI (b :: L)=(((b.toNat:Nat):Int),(8:Int)) :: bI L:=rfl;rw[e,eN,ih,a0E];simp only[Int.reduceToNat];omega
theorem uh(L:List UInt8)(h:L.length<=300):lOk (eo L.length++bI L)=true:=by
 have h1:=rf L.length (by omega);have h2:=mS L (by omega);unfold lOk at h1 h2 ⊢;simp only[a0n,a0z]at h1 h2 ⊢;rw[nG,h1.1,h2.1,a0m,j9];refine⟨rfl,?_⟩;have:(eo L.length).length=5:=rfl;omega
theorem yl(L:List UInt8)(h:L.length<=300):cH (eo L.length++bI L)=fj L:=by
 rw[←d6 (uh L h),ui L h];unfold fj;rw[a0d h]
theorem sE(L:List UInt8)(h:L.length<=300):(fj L).length=L.length+5:=by
 unfold fj;rw[a0d h,a0m,aT];omega
theorem wC(L:List UInt8)(h:L.length<=300):dx ⟨(fj L).toArray⟩=some (L,8*(L.length+5)):=by
 have hP:=uh L h;obtain⟨b1,b2,b3⟩:=nJ hP;have hl:=sE L h;rw[←yl L h]at hl ⊢;rw[hl]at b2;have hb:bN (eo L.length++bI L)=40+8*L.length:=by
  rw[dy,Ed];rfl
 have:=qZ (T:=L) hP (by omega) (by
  rw[hl,←b1,hb];refine nh (k:=0) b3 (by omega) ?_;unfold fZ;rw[a0d rfl];have h3:=DK (R:=[]) (V:=(bi (eo L.length++bI L)).1) (sz:=8*(L.length+5)) (p:=0+1+2) (c:=5) (L:=L) (l:=[]) (by decide) (by rw[a1e];exact b3.2.2) (by omega) (by simpa using h);rw[h3];simp only[a09])
 rw[this,hl]
theorem H5:(List.range 288).all (fun i=>decide (0<(bY 288).getD i 0)&&decide ((bY 288).getD i 0<=9))=true:=by decide +kernel
theorem Ez:(List.range 32).all (fun i=>decide (f8.getD i 0=5))=true:=by decide +kernel
theorem zh{i:Nat}(h:i<288):0<(bY 288).getD i 0/\(bY 288).getD i 0<=9:=by
 have:=a1j.1 H5 i (List.mem_range.2 h);simpa using this
theorem AU{i:Nat}(h:i<32):f8.getD i 0=5:=by
 have:=a1j.1 Ez i (List.mem_range.2 h);simpa using this
theorem E5 {t : Tk} (ht : okT t = true) : zo (bY 288) f8 t := by
  have := iC ht
  unfold fs at this
  unfold zo
  split
  · rename_i hB
    rw [a0d hB] at this
    have l1 : (bY 288).length = 288 := by decide +kernel
    exact (zh (by omega)).1
  · rename_i hB
    rw [a0e hB] at this
    have l1 : (bY 288).length = 288 := by decide +kernel
    have l2 : f8.length = 32 := by decide +kernel
    refine ⟨(zh (by omega)).1, ?_⟩
    rw [AU (by omega)]
    omega
theorem EF:(List.range 61).all (fun y=>decide (y<3) || decide (((bY 288).getD (257+fnd 3 4 y 27) 0).toNat+(stF 3 4 (fnd 3 4 y 27)).2+11<=9*y))=true:=by decide +kernel
theorem ED:(List.range 251).all (fun y=>decide (y<1) || decide ((stF 1 2 (fnd 1 2 y 29)).2<=6))=true:=by decide +kernel
theorem EE{t:Tk}(ht:okT t=true):bN (cz (bY 288) f8 t)<=9*(if isB t then 1 else t.2.1.toNat):=by
 obtain⟨y,lo,ba⟩:=t;unfold cz;by_cases hB:isB (y,lo,ba)=true
 ·
  rw[a0d hB,a0d hB,eN,jg,kZ];have hb:0<=y/\y<=255:=by unfold isB inB at hB;simp only[a0n,a0z]at hB;omega
  have:=zh (i:=y.toNat) (by omega);show((bY 288).getD y.toNat 0).toNat+0<=9*1;omega
 ·
  rw[a0e hB,a0e hB];have hK:isK (y,lo,ba)=true:=by unfold okT at ht;simpa[hB]using ht
  have hb:y=0/\3<=lo/\lo<=60/\1<=ba/\ba<=250:=by unfold isK inB at hK;simp only[a0n,a0z]at hK;omega
  obtain⟨rfl,b1,b2,b3,b4⟩:=hb;obtain⟨x,rfl⟩:=a0r (show 0<=lo by omega);obtain⟨z,rfl⟩:=a0r (show 0<=ba by omega);have f1:=a1j.1 EF x (List.mem_range.2 (by omega));have f2:=a1j.1 ED z (List.mem_range.2 (by omega));simp only[a1f,a0z]at f1 f2;have g:=AU (i:=fnd 1 2 z 29) (by have:=ez 1 2 z 29;omega);simp only[eN,jg,kZ,a0p];rw[g];omega
theorem H9{L:List UInt8} : ∀(n p:Nat),L.length-p<=n->bN ((bm L p).flatMap (cz (bY 288) f8))<=9*(L.length-p):=by
 intro n;induction n with
 | zero=>
  intro p h;rw[ee (by omega)];exact a0l _
 | succ n ih=>
  intro p h;by_cases hp:p<L.length
  ·
   have hok:=uw L L.length p (by omega);rw[fH hp]at hok ⊢;have h1:=EE (hok (dQ L p) (by simp));have h3:=fX L p;have h4:=mw hp;have h5:=ih (p+fS L p) (by omega);have h6:(if isB (dQ L p)then 1 else(dQ L p).2.1.toNat)=fS L p:=by
    unfold dQ fS;by_cases hc:(aX L p (min p 250)).1<3
    ·
     have hB:isB ((((L.getD p 0).toNat:Nat):Int),0,0)=true:=by
      have:=(L.getD p 0).toNat_lt;generalize (L.getD p 0).toNat=y at *
      unfold isB inB;simp;omega
     rw[a0d hc,a0d hc,hB];rfl
    ·
     have hB:isB (0,((aX L p (min p 250)).1:Int),((aX L p (min p 250)).2:Int))=false:=by
      unfold isB;simp;omega
     rw[a0e hc,a0e hc,hB];simp
   rw[h6]at h1;rw[a03,dy];omega
  · rw[ee hp];exact a0l _
theorem tt(s:ByteArray):bN (gm s)=1+2+bN ((bm s.data.toList 0).flatMap (cz (bY 288) f8))+7:=by
 unfold gm;rw[dy,dy];have e1:bN [((1:Int),(1:Int)),((1:Int),(2:Int))]=3:=rfl;have e2:bN [pcM (bY 288) 256]=7:=by
  rw[eN,jg,kZ];decide +kernel
 rw[e1,e2];omega
theorem rA(s:ByteArray)(h:s.size<=300):(dL s).length<=340/\2<=(dL s).length:=by
 have hP:=nS s h;obtain⟨b1,b2,b3⟩:=nJ hP;have e:=tt s;have e2:=H9 (L:=s.data.toList) s.data.toList.length 0 (by omega);have e3:s.data.toList.length=s.size:=by simp
 have hl:(dL s).length=((bi (gm s)).2+7)/8:=by unfold dL cH;exact aT _ _
 rw[hl,←b1,e];omega
theorem wB(s:ByteArray)(h:s.size<=300):dx ⟨(dL s).toArray⟩=some (s.data.toList,8*(dL s).length):=by
 have hP:=nS s h;obtain⟨b1,b2,b3⟩:=nJ hP;have hl:=(rA s h).1;have e:=tt s;have e3:s.data.toList.length=s.size:=by simp
 have hE:(bY 288).getD 256 0=7:=by decide +kernel
 refine qZ hP (show(dL s).length<=700 by omega) ?_;have b2':bN (gm s)<=8*(dL s).length:=b2;show ik (bi (gm s)).1 (8*(dL s).length) 0 []=some (s.data.toList,(bi (gm s)).2);refine nh (k:=1) b3 (by omega) ?_;unfold fZ zg;rw[a0e (by decide),a0d rfl];have ht:=BE (L:=bY 288) (D:=f8) gT lA (V:=(bi (gm s)).1) (sz:=8*(dL s).length) (by rw[hE];omega) (l:=[]) (bm s.data.toList 0) (0+1+2) [] s.data.toList (fun t ht=>⟨ep s t ht,E5 (ep s t ht)⟩) b3.2.2 (by rw[hE];simp only[Int.reduceToNat];omega) (sL (by omega));rw[hE]at ht;simp only[Int.reduceToNat]at ht;have ht':kF (bi (gm s)).1 (8*(dL s).length) (bY 288) (List.replicate 32 5) (0+1+2) []=_:=ht;rw[ht',←b1,e]
theorem Jf(s:ByteArray)(h:s.size<=300):dx (byS s)=some (s.data.toList,8*(byS s).size)/\(byS s).size=s.size+5:=by
 have hl:s.data.toList.length=s.size:=fE s;have h1:=wC s.data.toList (by omega);have h2:=sE s.data.toList (by omega);unfold byS;rw[kY,h1,h2,hl];exact⟨rfl,rfl⟩
theorem Jd(s:ByteArray)(h:s.size<=300):dx (byF s)=some (s.data.toList,8*(byF s).size)/\2<=(byF s).size/\(byF s).size<=340:=by
 have h1:=wB s h;have h2:=rA s h;unfold byF ki;rw[a0d h,kY,h1];exact⟨rfl,h2.2,h2.1⟩
theorem vh{a r:List Int}(hl:r.length=a.length)(h:∀j,j<a.length->r.getD j 0=a.getD j 0):r=a:=by
 apply a2e hl;intro j h1 h2;have:=h j h2;simpa[List.getD,h1,h2]using this
theorem Js{V:Nat}{a:List Int}{l:List (Int×Int)} : ∀(is:List Nat) (p:Nat) (r:List Int),Std V p (is.map (fun i=>(a.getD i 0,(3:Int)))++l)->(∀i∈is,0<=a.getD i 0/\i<r.length)->∀j,(lbV V is p r).getD j 0=if j∈is then a.getD j 0 else r.getD j 0:=by
 intro is;induction is with
 | nil=>intro p r _ _ j;simp[lbV]
 | cons i is ih=>
  intro p r h hi j;rw[a0C,a1n]at h;have h1:V/2 ^ p%2 ^ 3=(a.getD i 0).toNat:=h.1;have h2:=h.2;obtain⟨i1,i2⟩:=hi i (by simp);simp only[lbV];rw[h1,a22 i1,ih (p+3) _ h2 (fun k hk=>by rw[a1J];exact hi k (by simp[hk])) j];by_cases hj:j∈is
  · rw[a0d hj,a0d (by simp[hj])]
  ·
   rw[a0e hj];by_cases e:j=i
   · subst e;rw[a0d (by simp)];simp[List.getD,i2]
   · rw[a0e (by simp[hj,e])];simp[List.getD,Ne.symm e]
theorem Jt{V p:Nat}{a:List Int}{l:List (Int×Int)}(ha:a.length=19)(h0:∀i,i<19->0<=a.getD i 0)(h:Std V p (bH.map (fun i=>(a.getD i 0,(3:Int)))++l)):lbV V bH p (List.replicate 19 0)=a:=by
 have h19:∀i∈bH,i<19:=by decide
 have hall:∀i,i<19->i∈bH:=by decide
 have hg:=Js (a:=a) bH p (List.replicate 19 0) h (fun i hi=>⟨h0 i (h19 i hi),by rw[a0A];exact h19 i hi⟩);have hl:(lbV V bH p (List.replicate 19 0)).length=19:=by rw[Im,a0A]
 exact vh (by rw[hl,ha]) (fun j hj=>by rw[hg j,a0d (hall j (by omega))])
theorem Jv{B:List Int}(hok:aw B=true){V sz:Nat}{l:List (Int×Int)} : ∀(A R:List Int) (p:Nat),(∀x∈A,0<=x/\x<=15/\0<B.getD x.toNat 0)->Std V p (A.map (fun x=>pcM B x.toNat)++l)->p+bN (A.map (fun x=>pcM B x.toNat))<=sz->lnG V sz B (R.length+A.length) p R=some (R++A,p+bN (A.map (fun x=>pcM B x.toNat))):=by
 intro A;induction A with
 | nil=>
  intro R p _ _ hs;rw[a1C,jg,a1p]at hs;rw[xu hs (by simp),a0d (by simp),a1e,a1C,jg,a1p]
 | cons x A ih=>
  intro R p hA h hs;rw[a0C,eN,kZ]at hs ⊢;rw[a0C,a1n]at h;obtain⟨a1,a2,a3⟩:=hA x (by simp);rw[a0E,xt (by omega) (by omega),nO hok a3 h (by omega)];simp only[a0f];have e:gJ V sz R ((x.toNat:Nat):Int) (p+(B.getD x.toNat 0).toNat)=some (R++[x],p+(B.getD x.toNat 0).toNat):=by
   rw[a22 a1];unfold gJ;rw[a0e (by omega),a0e (by omega),a0e (by omega)]
  rw[e];simp only[a0f];have:=ih (R++[x]) (p+(B.getD x.toNat 0).toNat) (fun y hy=>hA y (by simp[hy])) h.2 (by omega);rw[a0m,a07]at this;rw[show R.length+(A.length+1)=R.length+1+A.length by omega,this];simp only[a0S,List.singleton_append,a0j,a0Y,a1W];omega
theorem oI(a:List Int)(is:List Nat):bN (is.map (fun i=>(a.getD i 0,(3:Int))))=3*is.length:=by
 induction is with
 | nil=>rfl
 | cons i is ih=>
  rw[a0C,eN,ih,a0E];simp only[Int.reduceToNat];omega
theorem Fc{V sz p:Nat}{L D:List Int}{l:List (Int×Int)}(hL:aw L=true)(hD:aw D=true)(l0:257<=L.length)(l1:L.length<=286)(d0:1<=D.length)(d1:D.length<=30)(h:Std V p (da L D++l))(hs:p+bN (da L D)<=sz) :
  xj V sz p=some (L.length,L++D,p+bN (da L D)):=by
 have hA:∀x∈L++D,0<=x/\x<=15:=by
  intro x hx;rcases a0X.1 hx with h|h
  · exact iY hL x h
  · exact iY hD x h
 have hAl:(L++D).length=L.length+D.length:=a0m;obtain⟨k1,k2,k3⟩:=rJ (L++D) (by omega) (by omega) hA;have hhas:=CV (L++D) (by omega) (by omega) hA;have e:da L D++l=((L.length:Int)-257,(5:Int)) :: ((D.length:Int)-1,(5:Int)) :: ((15:Int),(4:Int)) :: (bH.map (fun i=>((aO (L++D)).getD i 0,(3:Int)))++((L++D).map (fun x=>pcM (aO (L++D)) x.toNat)++l)):=by
  unfold da;simp only[a1n,a09,a0S]
 have eb:bN (da L D)=5+5+4+3*19+bN ((L++D).map (fun x=>pcM (aO (L++D)) x.toNat)):=by
  unfold da;rw[dy,dy,oI];have e1:bN [((L.length:Int)-257,(5:Int)),((D.length:Int)-1,(5:Int)),((15:Int),(4:Int))]=14:=rfl;have e2:bH.length=19:=rfl;rw[e1,e2];omega
 rw[e]at h;rw[eb]at hs ⊢;generalize hB:aO (L++D)=B at *
 have x1:V/2 ^ p%2 ^ 5=L.length-257:=by have:=h.1;simp only[Int.reduceToNat]at this;omega
 have h2:Std V (p+5) _:=h.2;have x2:V/2 ^ (p+5)%2 ^ 5=D.length-1:=by have:=h2.1;simp only[Int.reduceToNat]at this;omega
 have h3:Std V (p+5+5) _:=h2.2;have x3:V/2 ^ (p+5+5)%2 ^ 4=15:=by have:=h3.1;simp only[Int.reduceToNat]at this;exact this
 have h4:Std V (p+5+5+4) _:=h3.2;have hlb:=Jt (a:=B) k1 (fun i hi=>(k3 i hi).1) h4;have h5:=(nt.1 h4).2;rw[oI,show bH.length=19 from rfl]at h5;have hlb':lbV V (bH.take (15+4)) (p+5+5+4) (List.replicate 19 0)=B:=by
  rw[show bH.take (15+4)=bH from rfl];exact hlb
 rw[Fb (by omega) x1 x2 x3 hlb',a0d ⟨by omega,k2,by omega,by omega⟩];have hln:=Jv k2 (sz:=sz) (L++D) [] (p+5+5+4+3*(15+4)) (fun x hx=>⟨(hA x hx).1,(hA x hx).2,hhas x hx⟩) h5 (by omega);rw[a01,a0J,hAl,a09]at hln;rw[show L.length-257+257+(D.length-1+1)=L.length+D.length by omega,show L.length-257+257=L.length by omega,hln];simp only[a0f];rw[List.take_left',List.drop_left',a0d ⟨hL,hD⟩]
 · simp only[a0j,a0Y,a1W];omega
 · rfl
 · rfl
theorem FR(T:List Tk)(hT:T.length<=300)(hok:∀t∈T,okT t=true)(t:Tk)(ht:t∈T):zo (bD T) (ck T) t:=by
 obtain⟨h1,h2⟩:=Bq T hT hok t ht;unfold gV at h1;unfold dX at h2;unfold zo
 split
 · rename_i h;rw[a0d h]at h1;exact h1
 · rename_i h;rw[a0e h]at h1 h2;exact⟨h1,h2 _ (by simp)⟩
theorem tX(T:List Tk):bN (ij T)=1+2+bN (da (bD T) (ck T))+bN (T.flatMap (cz (bD T) (ck T)))+((bD T).getD 256 0).toNat:=by
 unfold ij;rw[dy,dy,dy,eN (pcM (bD T) 256),jg,kZ];have e1:bN [((1:Int),(1:Int)),((2:Int),(2:Int))]=3:=rfl;rw[e1];omega
theorem FP(s:ByteArray)(h:s.size<=300):9<=(kV s).length:=by
 have hT:=g9 s h;have hP:=qE (bm s.data.toList 0) hT (ep s);obtain⟨b1,b2,b3⟩:=nJ hP;have e:=tX (bm s.data.toList 0);have hl:(kV s).length=((bi (ij (bm s.data.toList 0))).2+7)/8:=by unfold kV cH;exact aT _ _
 have eb:71<=bN (da (bD (bm s.data.toList 0)) (ck (bm s.data.toList 0))):=by
  unfold da;rw[dy,dy,oI];have e2:bH.length=19:=rfl;rw[e2,eN,eN,eN];simp only[Int.reduceToNat];omega
 rw[hl,←b1,e];omega
theorem Cp(s:ByteArray)(h:s.size<=300)(hx:(kV s).length<=700):dx ⟨(kV s).toArray⟩=some (s.data.toList,8*(kV s).length):=by
 have hT:=g9 s h;have hok:=ep s;have e3:s.data.toList.length=s.size:=by simp
 have hF:=sL (L:=s.data.toList) (by omega);unfold kV at hx ⊢;generalize bm s.data.toList 0=T at *
 have hP:=qE T hT hok;obtain⟨b1,b2,b3⟩:=nJ hP;have e:=tX T;refine qZ hP hx ?_;generalize 8*(cH (ij T)).length=sz at *
 generalize (bi (ij T)).1=V at *
 obtain⟨l0,l1⟩:=iK T hT;obtain⟨d0,d1⟩:=jP T hT;have hE:=xP T hT 256 (.inl rfl) (by omega);refine nh (k:=2) b3 (by omega) ?_;have s3:Std V (0+1+2) (da (bD T) (ck T)++(T.flatMap (cz (bD T) (ck T))++[pcM (bD T) 256])):=b3.2.2;unfold fZ;rw[a0e (by decide),a0e (by decide),a0d rfl,Dp,Fc (fD T hT) (gE T hT) l0 l1 d0 d1 s3 (by omega)];simp only[a0f];rw[List.take_left',List.drop_left']
 · have s4:=(nt.1 s3).2;rw[BE (fD T hT) (gE T hT) hE (l:=[]) T _ [] s.data.toList (fun t ht=>⟨hok t ht,FR T hT hok t ht⟩) s4 (by omega) hF,←b1,e]
 · rfl
 · rfl
theorem Je(s:ByteArray)(h:s.size<=300):((byO s).size<=700->dx (byO s)=some (s.data.toList,8*(byO s).size))/\2<=(byO s).size:=by
 have h2:=FP s h;unfold byO kA;rw[a0d h,kY];exact⟨fun hx=>Cp s h hx,by omega⟩
theorem zi(s:ByteArray)(h:s.size<=300):dx (bZ s)=some (s.data.toList,8*(bZ s).size)/\(bZ s).size<=s.size+5/\2<=(bZ s).size/\(bZ s).size<=(byS s).size/\(bZ s).size<=(byF s).size/\(bZ s).size<=(byO s).size/\(bZ s=byS s∨bZ s=byF s∨bZ s=byO s):=by
 obtain⟨a1,a2⟩:=Jf s h;obtain⟨b1,b2,b3⟩:=Jd s h;obtain⟨c1,c2⟩:=Je s h;unfold bZ;by_cases e1:(byF s).size<(byS s).size
 ·
  rw[eK e1];by_cases e2:(byO s).size<(byF s).size
  · rw[eK e2];exact⟨c1 (by omega),by omega,c2,by omega,by omega,a0a _,.inr (.inr rfl)⟩
  · rw[fO e2];exact⟨b1,by omega,b2,by omega,a0a _,by omega,.inr (.inl rfl)⟩
 ·
  rw[fO e1];by_cases e2:(byO s).size<(byS s).size
  · rw[eK e2];exact⟨c1 (by omega),by omega,c2,by omega,by omega,a0a _,.inr (.inr rfl)⟩
  · rw[fO e2];exact⟨a1,by omega,by omega,a0a _,by omega,by omega,.inl rfl⟩
end Go.Proofs.YtbacpebljannfaaGreatDoor
